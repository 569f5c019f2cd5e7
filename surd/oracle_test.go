package surd

import (
	"math/big"
	"math/rand"
	"strconv"

	"surd/api"
)

// A second way of reckoning, on math/big: a number is a + b√d with fractions a and b.

type node struct {
	kind        byte // n: a number, r: a root, u: a sign ahead, + - * /: an operation
	at          int  // of its sign
	n           int64
	left, right *node
}

type pair struct {
	a, b *big.Rat
	d    int
}

// writer writes a random expression, and its tree with it.
type writer struct {
	source *rand.Rand
	text   []byte
	depth  int
	roots  []int64
}

func (w *writer) put(c byte) int {
	w.text = append(w.text, c)
	return len(w.text) - 1
}

func (w *writer) sum() *node {
	tree := w.product()
	for w.source.Intn(5) < 2 {
		kind := "+-"[w.source.Intn(2)]
		at := w.put(kind)
		tree = &node{kind: kind, at: at, left: tree, right: w.product()}
	}
	return tree
}

func (w *writer) product() *node {
	tree := w.factor()
	for w.source.Intn(5) < 2 {
		kind := "*/"[w.source.Intn(2)]
		at := w.put(kind)
		tree = &node{kind: kind, at: at, left: tree, right: w.factor()}
	}
	return tree
}

func (w *writer) factor() *node {
	choice := w.source.Intn(10)
	switch {
	case choice == 0:
		w.put('-')
		return &node{kind: 'u', left: w.factor()}
	case choice < 4 && w.depth < api.MaxDepth:
		w.put('(')
		w.depth++
		tree := w.sum()
		w.depth--
		w.put(')')
		return tree
	case choice < 7:
		n := w.roots[w.source.Intn(len(w.roots))]
		w.text = append(w.text, 'r')
		w.text = strconv.AppendInt(w.text, n, 10)
		return &node{kind: 'r', n: n}
	}
	n := w.source.Int63n(4)
	if w.source.Intn(3) == 0 {
		n = w.source.Int63n(1000000000000000000)
	}
	w.text = strconv.AppendInt(w.text, n, 10)
	return &node{kind: 'n', n: n}
}

// randomExpression answers one of at most MaxText bytes. Most often its roots are of one kind, lest hardly any have a value.
func randomExpression(source *rand.Rand) (string, *node) {
	families := [][]int64{{2, 8, 18, 720000}, {3, 12, 75, 27}, {999999, 111111}, {5, 20}, {6, 24, 4, 0, 1}, {2, 3, 6, 9, 0}, {999983, 999998}}
	for {
		w := &writer{source: source, roots: families[source.Intn(len(families))]}
		tree := w.sum()
		if len(w.text) <= api.MaxText {
			return string(w.text), tree
		}
	}
}

func rootPair(n int64) pair {
	for s := int64(1000); s >= 1; s-- {
		if n%(s*s) != 0 {
			continue
		}
		d := n / (s * s)
		if d <= 1 {
			return pair{big.NewRat(s*d, 1), new(big.Rat), 1}
		}
		return pair{new(big.Rat), big.NewRat(s, 1), int(d)}
	}
	return pair{}
}

// reckon answers the value of a tree, or the first error and its place.
func reckon(tree *node) (pair, api.Errno, int) {
	switch tree.kind {
	case 'n':
		return pair{big.NewRat(tree.n, 1), new(big.Rat), 1}, api.OK, 0
	case 'r':
		return rootPair(tree.n), api.OK, 0
	}
	x, err, at := reckon(tree.left)
	if err != api.OK {
		return x, err, at
	}
	if tree.kind == 'u' {
		return pair{new(big.Rat).Neg(x.a), new(big.Rat).Neg(x.b), x.d}, api.OK, 0
	}
	y, err, at := reckon(tree.right)
	if err != api.OK {
		return y, err, at
	}
	if tree.kind == '/' && y.a.Sign() == 0 && y.b.Sign() == 0 {
		return pair{}, api.ErrZero, tree.at
	}
	if x.d != 1 && y.d != 1 && x.d != y.d {
		return pair{}, api.ErrRoots, tree.at
	}
	z := combinePairs(x, tree.kind, y, max(x.d, y.d))
	if z.b.Sign() == 0 {
		z.d = 1
	}
	return z, api.OK, 0
}

func combinePairs(x pair, kind byte, y pair, d int) pair {
	switch kind {
	case '+':
		return pair{new(big.Rat).Add(x.a, y.a), new(big.Rat).Add(x.b, y.b), d}
	case '-':
		return pair{new(big.Rat).Sub(x.a, y.a), new(big.Rat).Sub(x.b, y.b), d}
	case '*':
		return multiplyPairs(x, y, d)
	}
	turned := pair{y.a, new(big.Rat).Neg(y.b), d}
	norm := multiplyPairs(y, turned, d).a
	z := multiplyPairs(x, turned, d)
	return pair{z.a.Quo(z.a, norm), z.b.Quo(z.b, norm), d}
}

func multiplyPairs(x pair, y pair, d int) pair {
	aa := new(big.Rat).Mul(x.a, y.a)
	bb := new(big.Rat).Mul(x.b, y.b)
	ab := new(big.Rat).Mul(x.a, y.b)
	ba := new(big.Rat).Mul(x.b, y.a)
	bb.Mul(bb, big.NewRat(int64(d), 1))
	return pair{aa.Add(aa, bb), ab.Add(ab, ba), d}
}

// form answers the form: R is the least common denominator of a and b.
func (x pair) form() api.Value {
	common := new(big.Int).GCD(nil, nil, x.a.Denom(), x.b.Denom())
	r := new(big.Int).Mul(x.a.Denom(), x.b.Denom())
	r.Quo(r, common)
	whole := new(big.Rat).SetInt(r)
	p := new(big.Rat).Mul(x.a, whole)
	q := new(big.Rat).Mul(x.b, whole)
	return api.Value{P: p.Num().String(), Q: q.Num().String(), R: r.String(), D: x.d}
}

// bits is so many that two different values of texts differ within them by far.
const bits = 8000

// near answers the number to bits bits.
func (x pair) near() *big.Float {
	root := new(big.Float).SetPrec(bits).SetInt64(int64(x.d))
	root.Sqrt(root)
	a := new(big.Float).SetPrec(bits).SetRat(x.a)
	b := new(big.Float).SetPrec(bits).SetRat(x.b)
	b.Mul(b, root)
	return a.Add(a, b)
}

// A place is where a number lies among others.
type place struct {
	form api.Value
	near *big.Float
}

func (x pair) place() place { return place{x.form(), x.near()} }

// comparePlaces goes by the forms, if they are the same, and else by the first bits.
func comparePlaces(x place, y place) int {
	if x.form == y.form {
		return 0
	}
	return x.near.Cmp(y.near)
}

func (x pair) floor() *big.Int {
	if x.d == 1 {
		return new(big.Int).Div(x.a.Num(), x.a.Denom())
	}
	return floorOf(x.near())
}

func floorOf(near *big.Float) *big.Int {
	t, _ := near.Int(nil)
	// Int rounds toward 0, and an irrational number is never whole.
	if near.Sign() < 0 {
		t.Sub(t, big.NewInt(1))
	}
	return t
}

// expand answers the first n terms, and whether these are all, by the words of the document.
func expand(x pair, n int) ([]string, bool) {
	one := pair{big.NewRat(1, 1), new(big.Rat), 1}
	terms := []string{}
	for len(terms) < n {
		t := x.floor()
		terms = append(terms, t.String())
		rest := pair{new(big.Rat).Sub(x.a, new(big.Rat).SetInt(t)), x.b, x.d}
		if rest.a.Sign() == 0 && rest.b.Sign() == 0 {
			return terms, true
		}
		x = combinePairs(one, '/', rest, x.d)
	}
	return terms, false
}

// valueOf reckons the value of an expression that has one, from its form.
func valueOf(value api.Value) pair {
	p, _ := new(big.Rat).SetString(value.P)
	q, _ := new(big.Rat).SetString(value.Q)
	r, _ := new(big.Rat).SetString(value.R)
	return pair{p.Quo(p, r), q.Quo(q, r), value.D}
}

// valueOfTerms answers the value of a list of terms, from its last one on.
func valueOfTerms(terms []string) *big.Rat {
	value := new(big.Rat)
	for i := len(terms) - 1; i >= 0; i-- {
		term, _ := new(big.Rat).SetString(terms[i])
		if i < len(terms)-1 {
			value.Inv(value)
		}
		value.Add(value, term)
	}
	return value
}

// bestOf tries the two fractions next to x of each denominator.
func bestOf(x pair, n int) (string, string) {
	if x.d == 1 {
		return bestOfRational(x.a, n)
	}
	near := x.near()
	var least *big.Float
	p, q := "", ""
	for below := int64(1); below <= int64(n); below++ {
		scaled := new(big.Float).SetPrec(bits).SetInt64(below)
		top := floorOf(scaled.Mul(scaled, near))
		for range 2 {
			fraction := new(big.Rat).SetFrac(top, big.NewInt(below))
			away := new(big.Float).SetPrec(bits).SetRat(fraction)
			away.Sub(away, near).Abs(away)
			if least == nil || away.Cmp(least) < 0 {
				least, p, q = away, fraction.Num().String(), fraction.Denom().String()
			}
			top.Add(top, big.NewInt(1))
		}
	}
	return p, q
}

// bestOfRational goes upward with the denominator and the numerator, so that the first of several is the one that is asked for.
func bestOfRational(x *big.Rat, n int) (string, string) {
	var least *big.Rat
	p, q := "", ""
	for below := int64(1); below <= int64(n); below++ {
		scaled := new(big.Rat).Mul(x, big.NewRat(below, 1))
		top := new(big.Int).Div(scaled.Num(), scaled.Denom())
		for range 2 {
			fraction := new(big.Rat).SetFrac(top, big.NewInt(below))
			away := new(big.Rat).Sub(fraction, x)
			away.Abs(away)
			if least == nil || away.Cmp(least) < 0 {
				least, p, q = away, fraction.Num().String(), fraction.Denom().String()
			}
			top.Add(top, big.NewInt(1))
		}
	}
	return p, q
}

// periodOf goes on with 1/(x - t) in the place of x until one comes that was there already; false, if it has not come within most steps.
func periodOf(x pair, most int) (int, int, bool) {
	one := pair{big.NewRat(1, 1), new(big.Rat), 1}
	seen := map[api.Value]int{}
	for i := 0; i <= most; i++ {
		form := x.form()
		if first, found := seen[form]; found {
			return first, i - first, true
		}
		seen[form] = i
		whole := new(big.Rat).SetInt(x.floor())
		x = combinePairs(one, '/', pair{new(big.Rat).Sub(x.a, whole), x.b, x.d}, x.d)
	}
	return 0, 0, false
}
