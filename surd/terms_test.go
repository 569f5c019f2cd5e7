package surd

import (
	"math"
	"math/rand"
	"slices"
	"strconv"
	"strings"
	"testing"

	"surd/api"
)

func checkTerms(t *testing.T, text string, n int, want []string, wantAll bool) {
	t.Helper()
	terms, all, err := Terms(text, n)
	if !slices.Equal(terms, want) || all != wantAll || err != api.OK {
		t.Fatalf("P6: Terms(%q, %d) = %v, %v, %d, want %v, %v", text, n, terms, all, err, want, wantAll)
	}
}

func TestP6Terms(t *testing.T) {
	for _, c := range []struct {
		text string
		n    int
		want string
		all  bool
	}{
		{"r2", 4, "1 2 2 2", false}, {"43/19", 9, "2 3 1 4", true}, {"-7/3", 3, "-3 1 2", true}, {"(1+r5)/2", 3, "1 1 1", false}, {"5", 0, "", false}, {"5", 1, "5", true},
		{"5", 2, "5", true}, {"0", 0, "", false}, {"0", 1, "0", true}, {"0", 100, "0", true}, {"-1", 1, "-1", true}, {"-1", 0, "", false}, {"1", 100, "1", true},
		{"43/19", 0, "", false}, {"43/19", 1, "2", false}, {"43/19", 2, "2 3", false}, {"43/19", 3, "2 3 1", false}, {"43/19", 4, "2 3 1 4", true}, {"43/19", 5, "2 3 1 4", true}, {"43/19", 100, "2 3 1 4", true},
		{"-7/3", 2, "-3 1", false}, {"-1/2", 9, "-1 2", true}, {"-1/3", 9, "-1 1 2", true}, {"-2/3", 9, "-1 3", true}, {"-3/2", 9, "-2 2", true}, {"1/2", 9, "0 2", true}, {"2/4", 9, "0 2", true}, {"-43/19", 9, "-3 1 2 1 4", true},
		{"r2", 0, "", false}, {"r2", 1, "1", false}, {"-r2", 6, "-2 1 1 2 2 2", false}, {"r2-2", 5, "-1 2 2 2 2", false}, {"1-r2", 5, "-1 1 1 2 2", false}, {"(1-r5)/2", 5, "-1 2 1 1 1", false}, {"-(1+r5)/2", 5, "-2 2 1 1 1", false},
		{"r2/2", 5, "0 1 2 2 2", false}, {"1/(r2-1)", 4, "2 2 2 2", false}, {"r3", 6, "1 1 2 1 2 1", false}, {"r7", 10, "2 1 1 1 4 1 1 1 4 1", false}, {"(3-2*r7)/5", 5, "-1 1 1 5 2", false}, {"r3/1000", 4, "0 577 2 1", false},
		{"r9", 3, "3", true}, {"r2*r8", 3, "4", true}, {"r999983", 2, "999 1", false}, {"r2/999999999999999999", 2, "0 707106781186547523", false}, {"999999999999999999+r2", 3, "1000000000000000000 2 2", false},
		{"-1/999999999999999999", 5, "-1 1 999999999999999998", true}, {"1/999999999999999999", 5, "0 999999999999999999", true}, {"999999999999999999*999999999999999999/2", 5, "499999999999999999000000000000000000 2", true},
	} {
		checkTerms(t, c.text, c.n, strings.Fields(c.want), c.all)
	}
}

func TestP6Errors(t *testing.T) {
	for _, c := range []struct {
		text string
		n    int
		want api.Errno
	}{
		{"r2", -1, api.ErrArg}, {"r2", 101, api.ErrArg}, {"5", -1, api.ErrArg}, {"5", 101, api.ErrArg}, {"5", math.MinInt, api.ErrArg}, {"5", math.MaxInt, api.ErrArg}, {"5", math.MinInt32, api.ErrArg}, {"5", math.MaxInt32, api.ErrArg},
		{"", 1, api.ErrText}, {"1+", 1, api.ErrText}, {"1/0", 1, api.ErrZero}, {"r2+r3", 1, api.ErrRoots}, {repeat("1", 101), 1, api.ErrLong},
		{"", 0, api.ErrText}, {"1/0", 0, api.ErrZero}, {"r2+r3", 0, api.ErrRoots}, {repeat("1", 101), 0, api.ErrLong},
		{"x", -1, api.ErrText}, {"x", 101, api.ErrText}, {"1/0", -1, api.ErrZero}, {"r2+r3", 101, api.ErrRoots}, {repeat("1", 101), 101, api.ErrLong},
	} {
		if terms, all, err := Terms(c.text, c.n); len(terms) != 0 || all || err != c.want {
			t.Errorf("P6: Terms(%.30q, %d) = %v, %v, %d, want none, false, %d", c.text, c.n, terms, all, err, c.want)
		}
	}
}

func TestP6AgainstTheSecondWay(t *testing.T) {
	source := rand.New(rand.NewSource(8))
	ended, endless := 0, 0
	for ended < 150 || endless < 150 {
		text, tree := randomExpression(source)
		value, err, _ := reckon(tree)
		if err != api.OK || (value.d == 1 && ended >= 300) {
			continue
		}
		n := []int{1, 2, 10, 30, api.MaxTerms}[source.Intn(5)]
		want, wantAll := expand(value, n)
		checkTerms(t, text, n, want, wantAll)
		if wantAll {
			ended++
		} else {
			endless++
		}
	}
}

// A shorter list is the beginning of a longer one, and all are told as soon as n has room for them.
func TestP6EveryN(t *testing.T) {
	for _, text := range []string{"43/19", "-43/19", "r2", "-r19/7", "7", "1/999999999999999999+1/999999999999999998", "(99999999-r999983)/7777777"} {
		whole, all, err := Terms(text, api.MaxTerms)
		if err != api.OK {
			t.Fatalf("P6: Terms(%q, 100) tells %d", text, err)
		}
		for n := 0; n <= api.MaxTerms; n++ {
			want := whole[:min(n, len(whole))]
			checkTerms(t, text, n, want, all && n >= len(whole))
		}
	}
}

// Rational numbers with just as many terms as can be told, with one less, and with one more.
func TestP6AtMaxTerms(t *testing.T) {
	source := rand.New(rand.NewSource(9))
	seen := [3]bool{}
	for range 100000 {
		if seen[0] && seen[1] && seen[2] {
			return
		}
		parts := []string{}
		for range 5 {
			parts = append(parts, "1/"+strconv.FormatInt(1+source.Int63n(10000000000000), 10))
		}
		text := strings.Join(parts, "+")
		value, err := Value(text)
		if err != api.OK {
			t.Fatalf("P6: Value(%q) tells %d", text, err)
		}
		want, _ := expand(valueOf(value), 200)
		kind := len(want) - (api.MaxTerms - 1)
		if kind < 0 || kind > 2 || seen[kind] {
			continue
		}
		seen[kind] = true
		checkTerms(t, text, api.MaxTerms, want[:min(api.MaxTerms, len(want))], len(want) <= api.MaxTerms)
		checkTerms(t, text, api.MaxTerms-1, want[:api.MaxTerms-1], len(want) == api.MaxTerms-1)
	}
	t.Errorf("no number has as many terms: %v", seen)
}

// greatTexts have the greatest numbers that a text can bring about.
func greatTexts() []string {
	nines := repeat("9", 18)
	return []string{
		"1/(1+r2*" + nines + ")/(3+r2*" + nines + ")/(7-r2*" + nines + ")",
		"1/(1+r999983*" + nines + ")-1/(7-r999983*" + nines + ")-r999983/" + nines,
		"r999983/" + nines + "+1/999999999999999989+1/999999999999999877+1/999999999999999967",
		"-r2*" + repeat(nines+"*", 4) + nines, "r2/(" + repeat(nines+"*", 4) + "99999)", "-r2/(" + repeat(nines+"*", 4) + "99999)", "1-1/(" + repeat(nines+"*", 4) + "99999)",
		repeat("1/(9+", 8) + "r999983" + repeat(")", 8), repeat("1/(9-", 8) + "r999983" + repeat(")", 8),
	}
}

func TestP6GreatNumbers(t *testing.T) {
	for _, text := range greatTexts() {
		value, err := Value(text)
		if err != api.OK {
			t.Fatalf("P6: Value(%q) tells %d", text, err)
		}
		want, all := expand(valueOf(value), api.MaxTerms)
		checkTerms(t, text, api.MaxTerms, want, all)
	}
}
