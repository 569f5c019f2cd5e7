// Package expansion expands numbers into continued fractions, term by term.
package expansion

import (
	"surd/exact"
	"surd/whole"
)

// Rest is what is still to be expanded of a number: (p + √n)/q, with q a divisor of n - p², so that what comes behind each term is again of this kind, with the same n. n is 0 for a rational number, and else no square. With q 0 nothing is left.
type Rest struct {
	p, q, n whole.Number
	root    whole.Number // the whole part of √n
}

// Of answers what is to be expanded at the beginning: all of x.
func Of(x exact.Number) Rest {
	p, factor, r, d := x.Parts()
	q := r
	if factor.Sign() < 0 {
		// √n has no sign ahead: (p - √n)/q is (-p + √n)/(-q).
		p = whole.Negate(p)
		q = whole.Negate(q)
	}
	// With r times as much above and below, q is r² or -r², and r² is a divisor of n and of p².
	p = whole.Multiply(p, r)
	q = whole.Multiply(q, r)
	side := whole.Multiply(factor, r)
	square := whole.Multiply(side, side)
	inside := whole.FromInt(int64(d))
	n := whole.Multiply(square, inside)
	root := whole.Root(n)
	return Rest{p: p, q: q, n: n, root: root}
}

// Ended tells whether nothing is left.
func (a Rest) Ended() bool {
	return a.q.Sign() == 0
}

// Next answers the next term, and what is left behind it. If nothing is left, the term is 0.
func (a Rest) Next() (whole.Number, Rest) {
	term := a.term()
	taken := whole.Multiply(term, a.q)
	// 1/((p + √n)/q - term) is q/(√n - p'), with p' = term*q - p, which is (p' + √n)/((n - p'²)/q).
	p := whole.Subtract(taken, a.p)
	square := whole.Multiply(p, p)
	norm := whole.Subtract(a.n, square)
	q, _ := whole.Divide(norm, a.q)
	return term, Rest{p: p, q: q, n: a.n, root: a.root}
}

// term answers the greatest whole number that is not above (p + √n)/q.
func (a Rest) term() whole.Number {
	above := whole.Add(a.p, a.root)
	below := a.q.Sign()
	irrational := a.n.Sign() > 0
	if below < 0 && irrational {
		// A greater number above makes the fraction less: √n is rounded upward.
		one := whole.FromInt(1)
		above = whole.Add(above, one)
	}
	return whole.Floor(above, a.q)
}
