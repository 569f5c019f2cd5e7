// Package expression reads expressions and reckons their values.
package expression

import (
	"surd/api"
	"surd/exact"
)

// Reckon answers an expression's value, or the error and its place as Check tells them (P3).
func Reckon(text string) (exact.Number, api.Errno, int) {
	if len(text) > api.MaxText {
		return exact.Number{}, api.ErrLong, 0
	}
	// The whole text is tested first: an error in it counts ahead of all that cannot be reckoned.
	fault := faultOf(text)
	if fault >= 0 {
		return exact.Number{}, api.ErrText, fault
	}
	r := reader{text: text}
	value := r.sum()
	if r.err != api.OK {
		return exact.Number{}, r.err, r.errAt
	}
	return value, api.OK, 0
}

// reader goes through the text of an expression. At the first operation that cannot be done it lays down the error, and reckons no more.
type reader struct {
	text  string
	at    int
	err   api.Errno
	errAt int
}

// peek answers the next byte, and 0 at the end.
func (r *reader) peek() byte {
	if r.at >= len(r.text) {
		return 0
	}
	return r.text[r.at]
}

func (r *reader) sum() exact.Number {
	value := r.product()
	for r.err == api.OK {
		sign := r.peek()
		if sign != '+' && sign != '-' {
			return value
		}
		signAt := r.at
		r.at++
		behind := r.product()
		value = r.operate(value, sign, signAt, behind)
	}
	return value
}

func (r *reader) product() exact.Number {
	value := r.factor()
	for r.err == api.OK {
		sign := r.peek()
		if sign != '*' && sign != '/' {
			return value
		}
		signAt := r.at
		r.at++
		behind := r.factor()
		value = r.operate(value, sign, signAt, behind)
	}
	return value
}

func (r *reader) factor() exact.Number {
	negative := false
	for r.peek() == '-' {
		negative = !negative
		r.at++
	}
	value := r.bareFactor()
	if negative {
		value = exact.Negate(value)
	}
	return value
}

// bareFactor reads a factor that has no sign ahead.
func (r *reader) bareFactor() exact.Number {
	switch r.peek() {
	case '(':
		r.at++
		value := r.sum()
		r.at++
		return value
	case 'r':
		r.at++
		n := r.digits()
		return exact.Root(int(n))
	}
	n := r.digits()
	return exact.FromInt(n)
}

// digits reads a number; it has at most MaxDigits digits, so that it fits into an int64.
func (r *reader) digits() int64 {
	n := int64(0)
	for r.at < len(r.text) {
		c := r.text[r.at]
		if !isDigit(c) {
			return n
		}
		n = n*10 + int64(c-'0')
		r.at++
	}
	return n
}

// operate does one operation, unless an earlier one could not be done.
func (r *reader) operate(ahead exact.Number, sign byte, signAt int, behind exact.Number) exact.Number {
	if r.err != api.OK {
		return ahead
	}
	value, err := combine(ahead, sign, behind)
	if err != api.OK {
		r.err = err
		r.errAt = signAt
	}
	return value
}

func combine(ahead exact.Number, sign byte, behind exact.Number) (exact.Number, api.Errno) {
	switch sign {
	case '+':
		return exact.Add(ahead, behind)
	case '-':
		return exact.Subtract(ahead, behind)
	case '*':
		return exact.Multiply(ahead, behind)
	}
	return exact.Divide(ahead, behind)
}
