// Package line solves ax + by = c in whole numbers.
package line

import "surd/whole"

// Solve answers x and y with ax + by = c: if b is 0, y is 0, else of all solutions that with the least x that is not below 0; false, if there is none. a and b are not both 0.
func Solve(a whole.Number, b whole.Number, c whole.Number) (whole.Number, whole.Number, bool) {
	none := whole.FromInt(0)
	divisor, part := share(a, b)
	times, left := whole.Divide(c, divisor)
	if left.Sign() != 0 {
		return none, none, false
	}
	x := whole.Multiply(part, times)
	if b.Sign() == 0 {
		return x, none, true
	}
	// From one solution to the next x goes on by b divided by the greatest common divisor.
	step, _ := whole.Divide(b, divisor)
	x = leastFrom(x, step)
	taken := whole.Multiply(a, x)
	rest := whole.Subtract(c, taken)
	y, _ := whole.Divide(rest, b)
	return x, y, true
}

// share answers the greatest common divisor of a and b, above 0 or below, and an x for which it is ax plus some multiple of b.
func share(a whole.Number, b whole.Number) (whole.Number, whole.Number) {
	// All along, first is a*x plus a multiple of b, second a*next plus a multiple of b.
	first, second := a, b
	x := whole.FromInt(1)
	next := whole.FromInt(0)
	for second.Sign() != 0 {
		quotient, rest := whole.Divide(first, second)
		taken := whole.Multiply(quotient, next)
		behind := whole.Subtract(x, taken)
		first, second = second, rest
		x, next = next, behind
	}
	return first, x
}

// leastFrom answers the least number that is not below 0 and lies some steps from x; step is not 0.
func leastFrom(x whole.Number, step whole.Number) whole.Number {
	if step.Sign() < 0 {
		step = whole.Negate(step)
	}
	steps := whole.Floor(x, step)
	taken := whole.Multiply(steps, step)
	return whole.Subtract(x, taken)
}
