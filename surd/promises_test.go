package surd

import (
	"math"
	"math/big"
	"math/rand"
	"slices"
	"strings"
	"testing"

	"surd/api"
)

func repeat(s string, n int) string { return strings.Repeat(s, n) }

// P1

// callAll calls what has landed with a text, and tells whether the other results go with the error as P1 asks.
func callAll(t *testing.T, text string) {
	t.Helper()
	err, at := Check(text)
	if at < 0 || at > len(text) || (at != 0 && (err == api.OK || err == api.ErrLong)) {
		t.Errorf("P1: Check(%.120q) = %d, %d", text, err, at)
	}
	value, valueErr := Value(text)
	if valueErr != err {
		t.Errorf("P4: Value(%.120q) tells %d, Check %d", text, valueErr, err)
	}
	if (valueErr != api.OK) != (value == api.Value{}) {
		t.Errorf("P1: Value(%.120q) = %+v, %d", text, value, valueErr)
	}
	callCompare(t, text, err)
	callTerms(t, text, err)
	callNear(t, text, err)
	callBest(t, text, err)
	callPeriod(t, text, err, value.D)
	for _, c := range places(text) {
		checkKind(t, c)
	}
}

// callCompare wants the error that Check tells of the text.
func callCompare(t *testing.T, text string, err api.Errno) {
	t.Helper()
	for _, pair := range [][2]string{{text, "r2"}, {"r2", text}, {text, text}} {
		order, compareErr := Compare(pair[0], pair[1])
		if compareErr != err {
			t.Errorf("P5: Compare(%.120q, %.120q) tells %d, Check %d", pair[0], pair[1], compareErr, err)
		}
		if order < -1 || order > 1 || (err != api.OK && order != 0) {
			t.Errorf("P1: Compare(%.120q, %.120q) = %d, %d", pair[0], pair[1], order, compareErr)
		}
	}
}

// callTerms wants the error that Check tells of the text.
func callTerms(t *testing.T, text string, err api.Errno) {
	t.Helper()
	for _, n := range []int{math.MinInt, -1, 0, 1, 5, api.MaxTerms, api.MaxTerms + 1, math.MaxInt} {
		want := err
		if err == api.OK && (n < 0 || n > api.MaxTerms) {
			want = api.ErrArg
		}
		terms, all, termsErr := Terms(text, n)
		if termsErr != want {
			t.Errorf("P6: Terms(%.120q, %d) tells %d, want %d", text, n, termsErr, want)
		}
		if want != api.OK && (len(terms) > 0 || all) {
			t.Errorf("P1: Terms(%.120q, %d) = %v, %v, %d", text, n, terms, all, termsErr)
		}
	}
}

// isWholeText tells whether a text is a whole number's text.
func isWholeText(text string) bool {
	digits := strings.TrimPrefix(text, "-")
	return text == "0" || (digits != "" && digits[0] != '0' && strings.Trim(digits, "0123456789") == "")
}

// checkFraction looks at what Near or Best answered: with an error nothing, else p and q above 0 as whole numbers' texts.
func checkFraction(t *testing.T, call string, text string, n int, p string, q string, err api.Errno, want api.Errno) {
	t.Helper()
	if err != want {
		t.Errorf("%s(%.120q, %d) tells %d, want %d", call, text, n, err, want)
	}
	if want != api.OK && (p != "" || q != "") {
		t.Errorf("P1: %s(%.120q, %d) = %q, %q, %d", call, text, n, p, q, err)
	}
	if want == api.OK && (!isWholeText(p) || !isWholeText(q) || q == "0" || q[0] == '-') {
		t.Errorf("%s(%.120q, %d) = %q, %q", call, text, n, p, q)
	}
}

// callNear wants the error that Check tells of the text.
func callNear(t *testing.T, text string, err api.Errno) {
	t.Helper()
	for _, k := range []int{math.MinInt, -1, 0, api.MaxTerms - 1, api.MaxTerms, math.MaxInt} {
		want := err
		if err == api.OK && (k < 0 || k > api.MaxTerms-1) {
			want = api.ErrArg
		}
		p, q, nearErr := Near(text, k)
		checkFraction(t, "P7: Near", text, k, p, q, nearErr, want)
	}
}

// callBest wants the error that Check tells of the text.
func callBest(t *testing.T, text string, err api.Errno) {
	t.Helper()
	for _, n := range []int{math.MinInt, -1, 0, 1, api.MaxBottom, api.MaxBottom + 1, math.MaxInt} {
		want := err
		if err == api.OK && (n < 1 || n > api.MaxBottom) {
			want = api.ErrArg
		}
		p, q, bestErr := Best(text, n)
		checkFraction(t, "P8: Best", text, n, p, q, bestErr, want)
	}
}

// callPeriod wants the error that Check tells of the text, and the root of its value.
func callPeriod(t *testing.T, text string, err api.Errno, d int) {
	t.Helper()
	b, l, periodErr := Period(text)
	if err == api.OK && d == 1 {
		err = api.ErrRational
	}
	if periodErr != err && (err != api.OK || periodErr != api.ErrFar) {
		t.Errorf("P9: Period(%.120q) tells %d, want %d", text, periodErr, err)
	}
	if periodErr != api.OK && (b != 0 || l != 0) {
		t.Errorf("P1: Period(%.120q) = %d, %d, %d", text, b, l, periodErr)
	}
	if periodErr == api.OK && (b < 0 || l < 1 || b+l > api.MaxPeriod) {
		t.Errorf("P9: Period(%.120q) = %d, %d", text, b, l)
	}
}

func TestP1AllShortTexts(t *testing.T) {
	for a := range 256 {
		callAll(t, string([]byte{byte(a)}))
		for b := range 256 {
			callAll(t, string([]byte{byte(a), byte(b)}))
		}
	}
}

func TestP1RandomTexts(t *testing.T) {
	source := rand.New(rand.NewSource(2))
	const alphabet = "0129rr--+*/(())"
	for range 50000 {
		text := make([]byte, source.Intn(104))
		for i := range text {
			text[i] = alphabet[source.Intn(len(alphabet))]
		}
		callAll(t, string(text))
	}
}

// Random expressions with one byte spoilt, put in or taken out.
func TestP1SpoiltTexts(t *testing.T) {
	source := rand.New(rand.NewSource(3))
	const alphabet = "0129r-+*/()x \x00\xff"
	for range 20000 {
		text, _ := randomExpression(source)
		i := source.Intn(len(text))
		c := alphabet[source.Intn(len(alphabet))]
		callAll(t, text[:i]+string([]byte{c})+text[i+1:])
		callAll(t, text[:i]+string([]byte{c})+text[i:])
		callAll(t, text[:i]+text[i+1:])
	}
}

// If a call went through such texts, it would not end within the time of a test.
func TestP1LongTextsByTheirLength(t *testing.T) {
	for _, long := range []string{repeat("1+", 20000000) + "1", repeat("x", 40000000), repeat("(", 40000000), repeat("1", 40000000)} {
		for range 50000 {
			if err, at := Check(long); err != api.ErrLong || at != 0 {
				t.Fatalf("P1: Check of a long text is %d, %d", err, at)
			}
			if value, err := Value(long); err != api.ErrLong || value != (api.Value{}) {
				t.Fatalf("P1: Value of a long text is %+v, %d", value, err)
			}
			if order, err := Compare(long, "x"); err != api.ErrLong || order != 0 {
				t.Fatalf("P1: Compare of a long text is %d, %d", order, err)
			}
			if order, err := Compare("1", long); err != api.ErrLong || order != 0 {
				t.Fatalf("P1: Compare with a long text is %d, %d", order, err)
			}
			if terms, all, err := Terms(long, -1); err != api.ErrLong || len(terms) > 0 || all {
				t.Fatalf("P1: Terms of a long text is %v, %v, %d", terms, all, err)
			}
			if p, q, err := Near(long, -1); err != api.ErrLong || p != "" || q != "" {
				t.Fatalf("P1: Near of a long text is %q, %q, %d", p, q, err)
			}
			if p, q, err := Best(long, 0); err != api.ErrLong || p != "" || q != "" {
				t.Fatalf("P1: Best of a long text is %q, %q, %d", p, q, err)
			}
			if b, l, err := Period(long); err != api.ErrLong || b != 0 || l != 0 {
				t.Fatalf("P1: Period of a long text is %d, %d, %d", b, l, err)
			}
			for _, c := range places(long) {
				if x, y, err := Line(c[0], c[1], c[2]); err != api.ErrArg || x != "" || y != "" {
					t.Fatalf("P1: Line of a long text is %q, %q, %d", x, y, err)
				}
			}
		}
	}
}

func TestP1ErrorsInTheirOrder(t *testing.T) {
	for _, c := range []struct {
		text string
		err  api.Errno
		at   int
	}{
		{"x" + repeat("1", 100), api.ErrLong, 0},
		{"1/0+" + repeat("-", 96) + "1", api.ErrLong, 0},
		{"1/0+" + repeat("-", 95) + "1", api.ErrZero, 1},
		{"1/0+" + repeat("-", 96), api.ErrText, 100},
		{"1/0)", api.ErrText, 3}, {"r2+r3+", api.ErrText, 6}, {"1/0+r2*r3(", api.ErrText, 9},
	} {
		if err, at := Check(c.text); err != c.err || at != c.at {
			t.Errorf("P1: Check(%q) = %d, %d, want %d, %d", c.text, err, at, c.err, c.at)
		}
		if value, err := Value(c.text); err != c.err || value != (api.Value{}) {
			t.Errorf("P1: Value(%q) = %+v, %d, want %d", c.text, value, err, c.err)
		}
	}
}

// P2

func TestP2ArgumentsAlone(t *testing.T) {
	type answer struct {
		err   api.Errno
		at    int
		value api.Value
		order int
		terms string
		all   bool
		near  [2]string
		best  [2]string
		first int
		long  int
	}
	ask := func(text string) answer {
		err, at := Check(text)
		value, _ := Value(text)
		order, _ := Compare(text, "r5-2")
		terms, all, _ := Terms(text, 20)
		near, below, _ := Near(text, 20)
		best, bottom, _ := Best(text, 700)
		first, long, _ := Period(text)
		return answer{err, at, value, order, strings.Join(terms, " "), all, [2]string{near, below}, [2]string{best, bottom}, first, long}
	}
	source := rand.New(rand.NewSource(4))
	texts := []string{"", "1/0", "r2+r3", "1+", repeat("1", 101), "r8/6"}
	for range 2000 {
		text, _ := randomExpression(source)
		texts = append(texts, text)
	}
	first := []answer{}
	for _, text := range texts {
		first = append(first, ask(text))
	}
	for i := len(texts) - 1; i >= 0; i-- {
		// A text of the same bytes at another place in memory.
		again := string([]byte(texts[i]))
		if got := ask(again); got != first[i] {
			t.Errorf("P2: %q: %+v, and later %+v", texts[i], first[i], got)
		}
	}
}

func TestP2NumbersAlone(t *testing.T) {
	type answer struct {
		x, y string
		err  api.Errno
	}
	askPell := func(d int) answer {
		x, y, err := Pell(d)
		return answer{x, y, err}
	}
	askLine := func(a string, b string, c string) answer {
		x, y, err := Line(a, b, c)
		return answer{x, y, err}
	}
	source := rand.New(rand.NewSource(18))
	lines := [][3]string{{"0", "0", "0"}, {"", "1", "1"}, {"2", "4", "1"}, {"5", "0", "5"}}
	for range 2000 {
		lines = append(lines, [3]string{randomNumber(source).String(), randomNumber(source).String(), randomNumber(source).String()})
	}
	first := []answer{}
	for d, c := range lines {
		first = append(first, askPell(d), askLine(c[0], c[1], c[2]))
	}
	for d := len(lines) - 1; d >= 0; d-- {
		// Texts of the same bytes at another place in memory.
		a, b, c := string([]byte(lines[d][0])), string([]byte(lines[d][1])), string([]byte(lines[d][2]))
		if pell, line := askPell(d), askLine(a, b, c); pell != first[2*d] || line != first[2*d+1] {
			t.Errorf("P2: Pell(%d): %+v, and later %+v; Line(%q, %q, %q): %+v, and later %+v", d, first[2*d], pell, a, b, c, first[2*d+1], line)
		}
	}
}

// spoil writes into a list and into its spare room.
func spoil(list []string) {
	room := list[:cap(list)]
	for i := range room {
		room[i] = "spoilt"
	}
}

func TestP2FreshLists(t *testing.T) {
	for _, c := range []struct {
		text string
		n    int
	}{
		{"r2", 0}, {"r2", 1}, {"r2", 5}, {"r2", 100}, {"r19", 33}, {"43/19", 2}, {"43/19", 100}, {"5", 1}, {"-1/1000", 9},
	} {
		before, _, _ := Terms(c.text, c.n)
		want := slices.Clone(before)
		other, _, _ := Terms(c.text, c.n)
		spoil(before)
		if !slices.Equal(other, want) {
			t.Errorf("P2: Terms(%q, %d): the second list is %v once the first is written into, and was %v", c.text, c.n, other, want)
		}
		other = append(other, "more", "and more")
		spoil(other)
		if after, _, _ := Terms(c.text, c.n); !slices.Equal(after, want) {
			t.Errorf("P2: Terms(%q, %d) is %v once lists are written into, and was %v", c.text, c.n, after, want)
		}
	}
}

// P3

func TestP3Examples(t *testing.T) {
	for _, c := range []struct {
		text string
		err  api.Errno
		at   int
	}{
		{"1+r2*(3-r8)", api.OK, 0}, {"1+", api.ErrText, 2}, {"1++2", api.ErrText, 2}, {"(1", api.ErrText, 2}, {"1/(r2-r2)", api.ErrZero, 1},
		{"r2+r3", api.ErrRoots, 2}, {"r4+r3", api.OK, 0}, {"1/0+r2*r3", api.ErrZero, 1}, {"r1234567", api.ErrText, 7},
	} {
		if err, at := Check(c.text); err != c.err || at != c.at {
			t.Errorf("P3: Check(%q) = %d, %d, want %d, %d", c.text, err, at, c.err, c.at)
		}
	}
}

func TestP3Limits(t *testing.T) {
	for _, c := range []struct {
		text string
		err  api.Errno
		at   int
	}{
		{repeat("1+", 49) + "11", api.OK, 0}, {repeat("1+", 50), api.ErrText, 100}, {repeat("1+", 50) + "1", api.ErrLong, 0},
		{repeat("(", 100), api.ErrText, 8}, {repeat("(", 101), api.ErrLong, 0},
		{repeat("0", 18), api.OK, 0}, {repeat("0", 19), api.ErrText, 18}, {"-(" + repeat("9", 19), api.ErrText, 20}, {"1+" + repeat("9", 18), api.OK, 0},
		{"r999999", api.OK, 0}, {"r000000", api.OK, 0}, {"r0000000", api.ErrText, 7}, {"2*r000001", api.OK, 0}, {"2*r0000001", api.ErrText, 9},
		{repeat("(", 8) + "1" + repeat(")", 8), api.OK, 0}, {repeat("(", 9) + "1" + repeat(")", 9), api.ErrText, 8},
		{repeat("(-", 8) + "1" + repeat(")", 8), api.OK, 0}, {repeat("(-", 8) + "(1" + repeat(")", 9), api.ErrText, 16},
		{repeat("(1)+", 20) + "(1)", api.OK, 0}, {repeat("(", 8) + "1)+(1)+(2" + repeat(")", 8), api.OK, 0}, {repeat("(", 8) + "1)+((", api.ErrText, 12},
		{repeat("(", 8) + "1" + repeat(")", 9), api.ErrText, 17},
	} {
		if err, at := Check(c.text); err != c.err || at != c.at {
			t.Errorf("P3: Check(%q) = %d, %d, want %d, %d", c.text, err, at, c.err, c.at)
		}
	}
}

func TestP3FirstOperation(t *testing.T) {
	for _, c := range []struct {
		text string
		err  api.Errno
		at   int
	}{
		{"r2+r3*(1/0)", api.ErrZero, 8}, {"r2*r3*(1/0)", api.ErrRoots, 2}, {"(r2+r3)/0", api.ErrRoots, 3}, {"1/0/0", api.ErrZero, 1},
		{"1/(2-2)+1/0", api.ErrZero, 1}, {"r2+r3*r5", api.ErrRoots, 5}, {"r2-r2*0-r3", api.ErrRoots, 7}, {"r2*0-r3", api.OK, 0}, {"r2/r2*r3", api.OK, 0},
		{"r2+r8-r18+r50-r72*r3", api.ErrRoots, 17}, {"1-1/--(1-1)", api.ErrZero, 3}, {"-1/-0", api.ErrZero, 2}, {"0*r2/(0*r3)", api.ErrZero, 4},
		{"(1+r2)*(1-r2)+r3", api.OK, 0}, {"r2/(r3/r3-1)", api.ErrZero, 2}, {"r999983+r999982", api.ErrRoots, 7}, {"r0*r2+r0*r3", api.OK, 0}, {"r2-(r3-r2)", api.ErrRoots, 6},
	} {
		if err, at := Check(c.text); err != c.err || at != c.at {
			t.Errorf("P3: Check(%q) = %d, %d, want %d, %d", c.text, err, at, c.err, c.at)
		}
	}
}

// P3 and P4

func TestP3P4AgainstTheSecondWay(t *testing.T) {
	source := rand.New(rand.NewSource(5))
	count := [9]int{}
	for range 40000 {
		text, tree := randomExpression(source)
		number, wantErr, wantAt := reckon(tree)
		err, at := Check(text)
		if err != wantErr || at != wantAt {
			t.Fatalf("P3: Check(%q) = %d, %d, want %d, %d", text, err, at, wantErr, wantAt)
		}
		want := api.Value{}
		if wantErr == api.OK {
			want = number.form()
		}
		value, err := Value(text)
		if value != want || err != wantErr {
			t.Fatalf("P4: Value(%q) = %+v, %d, want %+v, %d", text, value, err, want, wantErr)
		}
		count[err]++
	}
	if count[api.OK] < 1000 || count[api.ErrZero] < 1000 || count[api.ErrRoots] < 1000 {
		t.Errorf("too few of a kind: %v", count)
	}
}

// P4

func TestP4Values(t *testing.T) {
	for _, c := range []struct {
		text    string
		p, q, r string
		d       int
	}{
		{"r8/6", "0", "1", "3", 2}, {"1/(1+r2)", "-1", "1", "1", 2}, {"r12*r3", "6", "0", "1", 1}, {"-6/4", "-3", "0", "2", 1}, {"0", "0", "0", "1", 1},
		{"1-2-3", "-4", "0", "1", 1}, {"8/4/2", "1", "0", "1", 1}, {"-r2*3", "0", "-3", "1", 2}, {"2*3+4*5", "26", "0", "1", 1}, {"2*(3+4)*5", "70", "0", "1", 1},
		{"8/4*2", "4", "0", "1", 1}, {"8-4+2", "6", "0", "1", 1}, {"-(1+r3)", "-1", "-1", "1", 3}, {"---1", "-1", "0", "1", 1}, {"-2-1", "-3", "0", "1", 1},
		{"-0", "0", "0", "1", 1}, {"0*r2", "0", "0", "1", 1}, {"0/-7", "0", "0", "1", 1}, {"r0", "0", "0", "1", 1}, {"r000009", "3", "0", "1", 1}, {"000000000000000012", "12", "0", "1", 1},
		{"(3-2*r7)/5", "3", "-2", "5", 7}, {"(3-2*r7)/-5", "-3", "2", "5", 7}, {"(1+r5)/2", "1", "1", "2", 5}, {"r2/2+1/3", "2", "3", "6", 2}, {"1/r999983", "0", "1", "999983", 999983},
		{"r999999", "0", "3", "1", 111111}, {"r998001", "999", "0", "1", 1}, {"r999998", "0", "127", "1", 62}, {"r980000", "0", "700", "1", 2}, {"r994009", "997", "0", "1", 1}, {"r982802", "0", "701", "1", 2}, {"r999989", "0", "1", "1", 999989}, {"r510510", "0", "1", "1", 510510},
		{"999999999999999999", "999999999999999999", "0", "1", 1}, {"999999999999999999+1", "1000000000000000000", "0", "1", 1}, {"-999999999999999999-1", "-1000000000000000000", "0", "1", 1},
		{"1000000000*1000000000*1000000000", "1000000000000000000000000000", "0", "1", 1}, {"1000000000*1000000000/1000000000", "1000000000", "0", "1", 1},
		{"(1+r2*1000000000)*(1-r2*1000000000)", "-1999999999999999999", "0", "1", 1},
	} {
		want := api.Value{P: c.p, Q: c.q, R: c.r, D: c.d}
		if value, err := Value(c.text); value != want || err != api.OK {
			t.Errorf("P4: Value(%q) = %+v, %d, want %+v", c.text, value, err, want)
		}
	}
}

func TestP4Errors(t *testing.T) {
	for _, c := range []struct {
		text string
		err  api.Errno
	}{
		{"", api.ErrText}, {"1+", api.ErrText}, {" 1", api.ErrText}, {"1\n", api.ErrText}, {"R2", api.ErrText}, {"1/0", api.ErrZero}, {"1/(r2*r2-2)", api.ErrZero},
		{"r2+r3", api.ErrRoots}, {"1+r2-r3+1", api.ErrRoots}, {repeat("1", 101), api.ErrLong}, {"-" + repeat("1", 19), api.ErrText},
	} {
		if value, err := Value(c.text); value != (api.Value{}) || err != c.err {
			t.Errorf("P4: Value(%.30q) = %+v, %d, want %d", c.text, value, err, c.err)
		}
	}
}

// The greatest numbers that a text can bring about.
func TestP4GreatNumbers(t *testing.T) {
	nines := repeat("9", 18)
	product := repeat(nines+"*", 5) + "99999"
	if value, err := Value(product); err != api.OK || len(value.P) != 95 || !strings.HasSuffix(value.P, "00001") {
		t.Errorf("P4: Value(%q) = %+v, %d", product, value, err)
	}
	text := repeat("(9+", 8) + "r999983" + repeat(")*9999999", 7) + ")"
	p, q := big.NewInt(9), big.NewInt(1)
	for range 7 {
		p.Add(p.Mul(p, big.NewInt(9999999)), big.NewInt(9))
		q.Mul(q, big.NewInt(9999999))
	}
	want := api.Value{P: p.String(), Q: q.String(), R: "1", D: 999983}
	if value, err := Value(text); err != api.OK || value != want {
		t.Errorf("P4: Value(%q) = %+v, %d, want %+v", text, value, err, want)
	}
}
