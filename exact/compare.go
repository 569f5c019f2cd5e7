package exact

import "surd/whole"

// Compare tells -1, 0 or 1: a is less than b, the same, greater. Their roots may be different ones.
func Compare(a Number, b Number) int {
	// Both denominators are above 0, so that a - b times both of them, x + y√m + z√n, has the sign of a - b.
	opposite := whole.Negate(a.r)
	x := sumOfProducts(a.p, b.r, b.p, opposite)
	y := whole.Multiply(a.q, b.r)
	z := whole.Multiply(b.q, opposite)
	m := whole.FromInt(int64(a.d))
	n := whole.FromInt(int64(b.d))
	return signOfThree(x, y, m, z, n)
}

// signOfThree answers the sign of x + y√m + z√n; m and n are above 0.
func signOfThree(x whole.Number, y whole.Number, m whole.Number, z whole.Number, n whole.Number) int {
	mn := whole.Multiply(m, n)
	// y√m + z√n times √m is ym + z√(mn), which has one root only.
	ym := whole.Multiply(y, m)
	roots := signOfTwo(ym, z, mn)
	// x² - (y√m + z√n)² is x² - y²m - z²n - 2yz√(mn), which has one root only as well.
	zn := whole.Multiply(z, n)
	squares := sumOfProducts(ym, y, zn, z)
	square := whole.Multiply(x, x)
	rest := whole.Subtract(square, squares)
	yz := whole.Multiply(y, z)
	twice := whole.Add(yz, yz)
	opposite := whole.Negate(twice)
	order := signOfTwo(rest, opposite, mn)
	sign := x.Sign()
	return signOfSum(sign, roots, order)
}

// signOfTwo answers the sign of u + v√k; k is above 0.
func signOfTwo(u whole.Number, v whole.Number, k whole.Number) int {
	square := whole.Multiply(u, u)
	other := whole.Multiply(v, v)
	other = whole.Multiply(other, k)
	order := whole.Compare(square, other)
	signU := u.Sign()
	signV := v.Sign()
	return signOfSum(signU, signV, order)
}

// signOfSum answers the sign of a sum from the signs of its two parts and the order of their squares: the greater square decides.
func signOfSum(one int, other int, order int) int {
	if order > 0 {
		return one
	}
	if order < 0 || one == other {
		return other
	}
	return 0
}
