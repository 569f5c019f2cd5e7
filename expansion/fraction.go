package expansion

import (
	"surd/exact"
	"surd/whole"
)

// Fraction is p/q in lowest terms, with q above 0; ahead of the first term of an expansion it is 1/0.
type Fraction struct {
	p, q whole.Number
}

// Texts tells p and q.
func (a Fraction) Texts() (string, string) {
	p := a.p.Text()
	q := a.q.Text()
	return p, q
}

// walk goes along an expansion: last is the value of the terms so far, ahead that of these without the last one.
type walk struct {
	rest        Rest
	last, ahead Fraction
}

// begin answers the walk ahead of the first term. With 0/1 and 1/0 for what has no value yet, the first two values come by the rule of all others.
func begin(x exact.Number) walk {
	zero := whole.FromInt(0)
	one := whole.FromInt(1)
	last := Fraction{p: one, q: zero}
	ahead := Fraction{p: zero, q: one}
	rest := Of(x)
	return walk{rest: rest, last: last, ahead: ahead}
}

// next goes on by one term.
func (a walk) next() walk {
	term, rest := a.rest.Next()
	value := a.with(term)
	return walk{rest: rest, last: value, ahead: a.last}
}

// with answers the value of the terms so far and of one more. It is in lowest terms, as p*q' - p'*q of two values in a row is 1 or -1.
func (a walk) with(term whole.Number) Fraction {
	p := whole.Multiply(term, a.last.p)
	p = whole.Add(p, a.ahead.p)
	q := whole.Multiply(term, a.last.q)
	q = whole.Add(q, a.ahead.q)
	return Fraction{p: p, q: q}
}

// Near answers the value of the first n terms of x's expansion, of all, if there are not as many; n is above 0.
func Near(x exact.Number, n int) Fraction {
	at := begin(x)
	for i := 0; i < n && !at.rest.Ended(); i++ {
		at = at.next()
	}
	return at.last
}

// Best answers, of all fractions p/q in lowest terms with q from 1 to n, the one that is nearest to x; of several the one with the least q, of these the one with the least p; n is above 0.
func Best(x exact.Number, n int) Fraction {
	most := whole.FromInt(int64(n))
	at := begin(x)
	for !at.rest.Ended() {
		beyond := at.next()
		if whole.Compare(beyond.last.q, most) > 0 {
			other := at.otherSide(most)
			return nearer(x, at.last, other)
		}
		at = beyond
	}
	return at.last
}

// otherSide answers the fraction with q up to most that lies next to x on the side where last does not lie: the value with the greatest term that leaves q within most, which is less than the true term. A fraction between that value and last has at least the sum of their q below, and this sum is above most.
func (a walk) otherSide(most whole.Number) Fraction {
	room := whole.Subtract(most, a.ahead.q)
	term := whole.Floor(room, a.last.q)
	return a.with(term)
}

// nearer answers which of two fractions with x between them is the nearer one; if none is, that with the lesser q, and if these are the same, that with the lesser p.
func nearer(x exact.Number, a Fraction, b Fraction) Fraction {
	less, greater := a, b
	first := whole.Multiply(a.p, b.q)
	second := whole.Multiply(b.p, a.q)
	if whole.Compare(first, second) > 0 {
		less, greater = b, a
	}
	sum := whole.Add(first, second)
	below := whole.Multiply(a.q, b.q)
	twice := whole.Add(below, below)
	middle := exact.Quotient(sum, twice)
	order := exact.Compare(x, middle)
	if order == 0 {
		order = whole.Compare(less.q, greater.q)
	}
	if order > 0 {
		return greater
	}
	return less
}
