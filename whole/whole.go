// Package whole reckons with whole numbers of any size.
package whole

import "strconv"

// Number is a whole number; the zero Number is 0. It is never changed once it is made. 0 is not negative, so that each number has one shape only.
type Number struct {
	negative bool
	limbs    []int64
}

// FromInt makes a Number of an int64.
func FromInt(n int64) Number {
	limbs := []int64{}
	for rest := n; rest != 0; rest /= base {
		limb := rest % base
		// Turned limb by limb: the least int64 has no opposite.
		if limb < 0 {
			limb = -limb
		}
		limbs = append(limbs, limb)
	}
	return Number{negative: n < 0, limbs: limbs}
}

// FromText makes a Number of a whole number's text; false, if the text is none.
func FromText(text string) (Number, bool) {
	digits := text
	negative := len(text) > 0 && text[0] == '-'
	if negative {
		digits = text[1:]
	}
	if len(digits) == 0 || !allDigits(digits) {
		return Number{}, false
	}
	if digits[0] == '0' && text != "0" {
		return Number{}, false
	}
	limbs := limbsOf(digits)
	return Number{negative: negative, limbs: limbs}, true
}

func allDigits(text string) bool {
	for i := 0; i < len(text); i++ {
		if text[i] < '0' || text[i] > '9' {
			return false
		}
	}
	return true
}

// Text tells the number as a whole number's text.
func (a Number) Text() string {
	last := len(a.limbs) - 1
	if last < 0 {
		return "0"
	}
	text := strconv.FormatInt(a.limbs[last], 10)
	for i := last - 1; i >= 0; i-- {
		text += fullLimb(a.limbs[i])
	}
	if a.negative {
		text = "-" + text
	}
	return text
}

func fullLimb(limb int64) string {
	text := strconv.FormatInt(limb, 10)
	for len(text) < limbDigits {
		text = "0" + text
	}
	return text
}

// Sign tells -1, 0 or 1: below 0, 0, above 0.
func (a Number) Sign() int {
	if a.negative {
		return -1
	}
	if len(a.limbs) == 0 {
		return 0
	}
	return 1
}

// Compare tells -1, 0 or 1: a is less than b, the same, greater.
func Compare(a Number, b Number) int {
	if a.negative != b.negative {
		if a.negative {
			return -1
		}
		return 1
	}
	if a.negative {
		return compareLimbs(b.limbs, a.limbs)
	}
	return compareLimbs(a.limbs, b.limbs)
}

// Negate answers -a.
func Negate(a Number) Number {
	limbs := copyLimbs(a.limbs)
	return Number{negative: !a.negative && len(limbs) > 0, limbs: limbs}
}

// Add answers a + b.
func Add(a Number, b Number) Number {
	if a.negative == b.negative {
		limbs := addLimbs(a.limbs, b.limbs)
		return Number{negative: a.negative, limbs: limbs}
	}
	order := compareLimbs(a.limbs, b.limbs)
	if order == 0 {
		return Number{}
	}
	if order < 0 {
		limbs := subtractLimbs(b.limbs, a.limbs)
		return Number{negative: b.negative, limbs: limbs}
	}
	limbs := subtractLimbs(a.limbs, b.limbs)
	return Number{negative: a.negative, limbs: limbs}
}

// Subtract answers a - b.
func Subtract(a Number, b Number) Number {
	opposite := Negate(b)
	return Add(a, opposite)
}

// Multiply answers a times b.
func Multiply(a Number, b Number) Number {
	limbs := multiplyLimbs(a.limbs, b.limbs)
	return Number{negative: a.negative != b.negative && len(limbs) > 0, limbs: limbs}
}

// Divide answers the quotient, rounded toward 0, and the remainder, which has the sign of a or is 0. With b 0 these are 0 and a.
func Divide(a Number, b Number) (Number, Number) {
	above, below := divideLimbs(a.limbs, b.limbs)
	quotient := Number{negative: a.negative != b.negative && len(above) > 0, limbs: above}
	remainder := Number{negative: a.negative && len(below) > 0, limbs: below}
	return quotient, remainder
}

// Floor answers the greatest whole number that is not above a divided by b. With b 0 it is 0.
func Floor(a Number, b Number) Number {
	quotient, remainder := Divide(a, b)
	// Divide rounds toward 0, so that a quotient below 0 comes out too great.
	if len(b.limbs) > 0 && len(remainder.limbs) > 0 && remainder.negative != b.negative {
		one := FromInt(1)
		quotient = Subtract(quotient, one)
	}
	return quotient
}

// Root answers the greatest whole number whose square is not above a; of an a below 0 there is none, and it is 0.
func Root(a Number) Number {
	if a.negative {
		return Number{}
	}
	limbs := rootLimbs(a.limbs)
	return Number{limbs: limbs}
}

// Divisor answers the greatest common divisor of a and b; it is 0 if both are.
func Divisor(a Number, b Number) Number {
	greater := copyLimbs(a.limbs)
	less := copyLimbs(b.limbs)
	for len(less) > 0 {
		_, rest := divideLimbs(greater, less)
		greater = less
		less = rest
	}
	return Number{limbs: greater}
}
