// Package surd: exact numbers with one square root, and their continued fractions: see DOC.md.
package surd

import (
	"surd/api"
	"surd/exact"
	"surd/expansion"
	"surd/expression"
	"surd/line"
	"surd/whole"
)

// Check tells whether an expression is one that has a value, and where it is not (P3).
func Check(text string) (api.Errno, int) {
	_, err, at := expression.Reckon(text)
	return err, at
}

// Value tells an expression's value (P4).
func Value(text string) (api.Value, api.Errno) {
	number, err, _ := expression.Reckon(text)
	if err != api.OK {
		return api.Value{}, err
	}
	return number.Form(), api.OK
}

// Compare tells which of two values is the greater (P5).
func Compare(a string, b string) (int, api.Errno) {
	first, err, _ := expression.Reckon(a)
	if err != api.OK {
		return 0, err
	}
	second, err, _ := expression.Reckon(b)
	if err != api.OK {
		return 0, err
	}
	order := exact.Compare(first, second)
	return order, api.OK
}

// Terms expands a value (P6).
func Terms(text string, n int) ([]string, bool, api.Errno) {
	number, err, _ := expression.Reckon(text)
	if err != api.OK {
		return nil, false, err
	}
	if n < 0 || n > api.MaxTerms {
		return nil, false, api.ErrArg
	}
	terms := []string{}
	rest := expansion.Of(number)
	for len(terms) < n && !rest.Ended() {
		term, behind := rest.Next()
		rest = behind
		word := term.Text()
		terms = append(terms, word)
	}
	all := rest.Ended()
	return terms, all, api.OK
}

// Near tells the value of the first terms of an expansion (P7).
func Near(text string, k int) (string, string, api.Errno) {
	number, err, _ := expression.Reckon(text)
	if err != api.OK {
		return "", "", err
	}
	if k < 0 || k >= api.MaxTerms {
		return "", "", api.ErrArg
	}
	value := expansion.Near(number, k+1)
	p, q := value.Texts()
	return p, q, api.OK
}

// Best tells the nearest fraction (P8).
func Best(text string, n int) (string, string, api.Errno) {
	number, err, _ := expression.Reckon(text)
	if err != api.OK {
		return "", "", err
	}
	if n < 1 || n > api.MaxBottom {
		return "", "", api.ErrArg
	}
	nearest := expansion.Best(number, n)
	p, q := nearest.Texts()
	return p, q, api.OK
}

// Period tells where an expansion begins to repeat itself, and how long it is until it does (P9).
func Period(text string) (int, int, api.Errno) {
	number, err, _ := expression.Reckon(text)
	if err != api.OK {
		return 0, 0, err
	}
	if number.Rational() {
		return 0, 0, api.ErrRational
	}
	ahead, length, found := expansion.Period(number, api.MaxPeriod)
	if !found {
		return 0, 0, api.ErrFar
	}
	return ahead, length, api.OK
}

// Pell solves x² - dy² = 1 (P10).
func Pell(d int) (string, string, api.Errno) {
	if d < 2 || d > api.MaxPell {
		return "", "", api.ErrArg
	}
	root := exact.Root(d)
	if root.Rational() {
		return "", "", api.ErrArg
	}
	solution := expansion.Pell(d)
	x, y := solution.Texts()
	return x, y, api.OK
}

// Line solves ax + by = c (P11).
func Line(a string, b string, c string) (string, string, api.Errno) {
	if len(a) > api.MaxNumber || len(b) > api.MaxNumber || len(c) > api.MaxNumber {
		return "", "", api.ErrArg
	}
	first, firstFits := whole.FromText(a)
	second, secondFits := whole.FromText(b)
	sum, sumFits := whole.FromText(c)
	if !firstFits || !secondFits || !sumFits {
		return "", "", api.ErrArg
	}
	firstSign := first.Sign()
	secondSign := second.Sign()
	if firstSign == 0 && secondSign == 0 {
		return "", "", api.ErrArg
	}
	x, y, found := line.Solve(first, second, sum)
	if !found {
		return "", "", api.ErrNone
	}
	xText := x.Text()
	yText := y.Text()
	return xText, yText, api.OK
}
