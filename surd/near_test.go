package surd

import (
	"math"
	"math/rand"
	"testing"

	"surd/api"
)

func checkNear(t *testing.T, text string, k int, wantP string, wantQ string) {
	t.Helper()
	if p, q, err := Near(text, k); p != wantP || q != wantQ || err != api.OK {
		t.Fatalf("P7: Near(%q, %d) = %s, %s, %d, want %s, %s", text, k, p, q, err, wantP, wantQ)
	}
}

func TestP7Near(t *testing.T) {
	for _, c := range []struct {
		text string
		k    int
		p, q string
	}{
		{"r2", 3, "17", "12"}, {"43/19", 2, "9", "4"}, {"43/19", 50, "43", "19"}, {"-7/3", 0, "-3", "1"},
		{"43/19", 0, "2", "1"}, {"43/19", 1, "7", "3"}, {"43/19", 3, "43", "19"}, {"43/19", 4, "43", "19"}, {"43/19", 99, "43", "19"}, {"-43/19", 99, "-43", "19"}, {"-43/19", 1, "-2", "1"}, {"-43/19", 2, "-7", "3"},
		{"0", 0, "0", "1"}, {"0", 99, "0", "1"}, {"-0", 1, "0", "1"}, {"7", 0, "7", "1"}, {"7", 99, "7", "1"}, {"-7", 0, "-7", "1"}, {"-7", 99, "-7", "1"}, {"6/4", 1, "3", "2"}, {"-6/4", 0, "-2", "1"}, {"-6/4", 99, "-3", "2"},
		{"-7/3", 1, "-2", "1"}, {"-7/3", 2, "-7", "3"}, {"-7/3", 3, "-7", "3"}, {"1/2", 0, "0", "1"}, {"1/2", 1, "1", "2"}, {"-1/2", 0, "-1", "1"}, {"-1/2", 1, "-1", "2"}, {"1/999999999999999999", 0, "0", "1"}, {"1/999999999999999999", 1, "1", "999999999999999999"},
		{"r2", 0, "1", "1"}, {"r2", 1, "3", "2"}, {"r2", 2, "7", "5"}, {"-r2", 0, "-2", "1"}, {"-r2", 1, "-1", "1"}, {"-r2", 2, "-3", "2"}, {"-r2", 3, "-7", "5"}, {"(1+r5)/2", 0, "1", "1"}, {"(1+r5)/2", 1, "2", "1"}, {"(1+r5)/2", 99, "573147844013817084101", "354224848179261915075"}, {"(1-r5)/2", 3, "-3", "5"}, {"(1-r5)/2", 5, "-8", "13"},
		{"r2/2", 0, "0", "1"}, {"r2/2", 1, "1", "1"}, {"r2/2", 2, "2", "3"}, {"r9", 5, "3", "1"}, {"r7", 4, "37", "14"}, {"(3-2*r7)/5", 4, "-11", "24"}, {"999999999999999999+r2", 2, "5000000000000000002", "5"},
		{"r2", 99, "94741125149636933417873079920900017937", "66992092050551637663438906713182313772"},
	} {
		checkNear(t, c.text, c.k, c.p, c.q)
	}
}

func TestP7Errors(t *testing.T) {
	long := repeat("1", 101)
	for _, c := range []struct {
		text string
		k    int
		want api.Errno
	}{
		{"r2", -1, api.ErrArg}, {"r2", 100, api.ErrArg}, {"5", -1, api.ErrArg}, {"5", 100, api.ErrArg}, {"5", 101, api.ErrArg}, {"5", math.MinInt, api.ErrArg}, {"5", math.MaxInt, api.ErrArg}, {"5", math.MinInt32, api.ErrArg}, {"5", math.MaxInt32, api.ErrArg},
		{"", 1, api.ErrText}, {"1+", 1, api.ErrText}, {"1/0", 1, api.ErrZero}, {"r2+r3", 1, api.ErrRoots}, {long, 1, api.ErrLong},
		{"x", -1, api.ErrText}, {"x", 100, api.ErrText}, {"1/0", -1, api.ErrZero}, {"r2+r3", 100, api.ErrRoots}, {long, 100, api.ErrLong},
	} {
		if p, q, err := Near(c.text, c.k); p != "" || q != "" || err != c.want {
			t.Errorf("P7: Near(%.30q, %d) = %q, %q, %d, want %d", c.text, c.k, p, q, err, c.want)
		}
	}
}

func TestP7AgainstTheSecondWay(t *testing.T) {
	source := rand.New(rand.NewSource(11))
	rational, others := 0, 0
	for rational < 150 || others < 150 {
		text, tree := randomExpression(source)
		value, err, _ := reckon(tree)
		if err != api.OK || (value.d == 1 && rational >= 300) {
			continue
		}
		terms, _ := expand(value, api.MaxTerms)
		for _, k := range []int{0, 1, 2, 3, source.Intn(api.MaxTerms), api.MaxTerms - 1} {
			want := valueOfTerms(terms[:min(k+1, len(terms))])
			checkNear(t, text, k, want.Num().String(), want.Denom().String())
		}
		if value.d == 1 {
			rational++
		} else {
			others++
		}
	}
}

// The terms that Terms tells have the value that Near tells, for every k.
func TestP7EveryK(t *testing.T) {
	for _, text := range []string{"43/19", "-43/19", "r2", "-r19/7", "7", "1/999999999999999999+1/999999999999999998", "(99999999-r999983)/7777777", "1/7+1/10000000000001+1/10000000000037+1/10000000000051+1/99999999999997+1/99999999999959"} {
		for k := range api.MaxTerms {
			terms, _, err := Terms(text, k+1)
			if err != api.OK {
				t.Fatalf("P7: Terms(%q, %d) tells %d", text, k+1, err)
			}
			want := valueOfTerms(terms)
			checkNear(t, text, k, want.Num().String(), want.Denom().String())
		}
	}
}

func TestP7GreatNumbers(t *testing.T) {
	for _, text := range greatTexts() {
		value, err := Value(text)
		if err != api.OK {
			t.Fatalf("P7: Value(%q) tells %d", text, err)
		}
		terms, _ := expand(valueOf(value), api.MaxTerms)
		for _, k := range []int{0, 1, 2, 50, api.MaxTerms - 1} {
			want := valueOfTerms(terms[:min(k+1, len(terms))])
			checkNear(t, text, k, want.Num().String(), want.Denom().String())
		}
	}
}
