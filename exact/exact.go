// Package exact reckons with numbers (P + Q√D)/R, each held in its form.
package exact

import (
	"surd/api"
	"surd/whole"
)

// Number is a number in its form. One without a form, Number{}, comes with an error alone.
type Number struct {
	p, q, r whole.Number
	d       int
}

// FromInt makes a Number of a whole number.
func FromInt(n int64) Number {
	p := whole.FromInt(n)
	one := whole.FromInt(1)
	return Number{p: p, r: one, d: 1}
}

// Root answers the square root of n; of an n below 0, which has none, 0.
func Root(n int) Number {
	if n <= 0 {
		return FromInt(0)
	}
	outside := 1
	inside := n
	for i := 2; i <= inside/i; i++ {
		for inside%(i*i) == 0 {
			inside /= i * i
			outside *= i
		}
	}
	if inside == 1 {
		return FromInt(int64(outside))
	}
	q := whole.FromInt(int64(outside))
	one := whole.FromInt(1)
	return Number{q: q, r: one, d: inside}
}

// Quotient answers p/q; q is not 0.
func Quotient(p whole.Number, q whole.Number) Number {
	none := whole.FromInt(0)
	return reduce(p, none, q, 1)
}

// Form tells the number's form.
func (a Number) Form() api.Value {
	p := a.p.Text()
	q := a.q.Text()
	r := a.r.Text()
	return api.Value{P: p, Q: q, R: r, D: a.d}
}

// Parts answers p, q, r and d of the number's form (p + q√d)/r.
func (a Number) Parts() (whole.Number, whole.Number, whole.Number, int) {
	return a.p, a.q, a.r, a.d
}

// Rational tells whether the number is rational.
func (a Number) Rational() bool {
	return a.d == 1
}

// Negate answers -a.
func Negate(a Number) Number {
	p := whole.Negate(a.p)
	q := whole.Negate(a.q)
	return Number{p: p, q: q, r: a.r, d: a.d}
}

// Add answers a + b; ErrRoots, if they have two different roots.
func Add(a Number, b Number) (Number, api.Errno) {
	d := commonRoot(a, b)
	if d == 0 {
		return Number{}, api.ErrRoots
	}
	p := sumOfProducts(a.p, b.r, b.p, a.r)
	q := sumOfProducts(a.q, b.r, b.q, a.r)
	r := whole.Multiply(a.r, b.r)
	sum := reduce(p, q, r, d)
	return sum, api.OK
}

// Subtract answers a - b; ErrRoots, if they have two different roots.
func Subtract(a Number, b Number) (Number, api.Errno) {
	opposite := Negate(b)
	return Add(a, opposite)
}

// Multiply answers a times b; ErrRoots, if they have two different roots.
func Multiply(a Number, b Number) (Number, api.Errno) {
	d := commonRoot(a, b)
	if d == 0 {
		return Number{}, api.ErrRoots
	}
	scaled := timesRoot(b.q, d)
	p := sumOfProducts(a.p, b.p, a.q, scaled)
	q := sumOfProducts(a.p, b.q, a.q, b.p)
	r := whole.Multiply(a.r, b.r)
	product := reduce(p, q, r, d)
	return product, api.OK
}

// Divide answers a divided by b; ErrZero, if b is 0, ErrRoots, if they have two different roots.
func Divide(a Number, b Number) (Number, api.Errno) {
	if b.isZero() {
		return Number{}, api.ErrZero
	}
	inverse := invert(b)
	return Multiply(a, inverse)
}

// invert wants an a that is not 0. It makes the root vanish below by r/(p + q√d) = r(p - q√d)/(p² - dq²): what is below then is not 0, as d is no square.
func invert(a Number) Number {
	opposite := whole.Negate(a.q)
	scaled := timesRoot(opposite, a.d)
	norm := sumOfProducts(a.p, a.p, a.q, scaled)
	p := whole.Multiply(a.r, a.p)
	q := whole.Multiply(a.r, opposite)
	return reduce(p, q, norm, a.d)
}

func (a Number) isZero() bool {
	p := a.p.Sign()
	q := a.q.Sign()
	return p == 0 && q == 0
}

// commonRoot answers the root that a number reckoned from a and b has, unless it is rational; 0, if a and b have two different ones.
func commonRoot(a Number, b Number) int {
	if a.d == 1 || a.d == b.d {
		return b.d
	}
	if b.d == 1 {
		return a.d
	}
	return 0
}

func timesRoot(a whole.Number, d int) whole.Number {
	factor := whole.FromInt(int64(d))
	return whole.Multiply(a, factor)
}

// sumOfProducts answers a*b + c*e.
func sumOfProducts(a whole.Number, b whole.Number, c whole.Number, e whole.Number) whole.Number {
	first := whole.Multiply(a, b)
	second := whole.Multiply(c, e)
	return whole.Add(first, second)
}

// reduce brings (p + q√d)/r into its form; d is 1 or has no square above 1 as a divisor, and q is 0 if d is 1; r is not 0.
func reduce(p whole.Number, q whole.Number, r whole.Number, d int) Number {
	common := whole.Divisor(r, p)
	common = whole.Divisor(common, q)
	if r.Sign() < 0 {
		common = whole.Negate(common)
	}
	p, _ = whole.Divide(p, common)
	q, _ = whole.Divide(q, common)
	r, _ = whole.Divide(r, common)
	if q.Sign() == 0 {
		d = 1
	}
	return Number{p: p, q: q, r: r, d: d}
}
