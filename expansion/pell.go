package expansion

import (
	"surd/exact"
	"surd/whole"
)

// Pell answers x/y with the least x above 0 and y above 0 for which x² - dy² is 1; d is above 1 and no square.
func Pell(d int) Fraction {
	root := exact.Root(d)
	factor := whole.FromInt(int64(d))
	at := begin(root)
	// Every solution x/y is so near to √d that it is the value of its first terms, and these values have a greater p each time: the first that is a solution is the least. The terms of a square's root end, so that there is an end even without a solution.
	for !at.rest.Ended() {
		at = at.next()
		if at.last.solves(factor) {
			return at.last
		}
	}
	return at.last
}

// solves tells whether p² - d*q² is 1.
func (a Fraction) solves(d whole.Number) bool {
	first := whole.Multiply(a.p, a.p)
	second := whole.Multiply(a.q, a.q)
	second = whole.Multiply(second, d)
	norm := whole.Subtract(first, second)
	one := whole.FromInt(1)
	return whole.Compare(norm, one) == 0
}
