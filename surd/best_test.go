package surd

import (
	"fmt"
	"math"
	"math/rand"
	"strconv"
	"testing"

	"surd/api"
)

func checkBest(t *testing.T, text string, n int, wantP string, wantQ string) {
	t.Helper()
	if p, q, err := Best(text, n); p != wantP || q != wantQ || err != api.OK {
		t.Fatalf("P8: Best(%q, %d) = %s, %s, %d, want %s, %s", text, n, p, q, err, wantP, wantQ)
	}
}

func TestP8Best(t *testing.T) {
	for _, c := range []struct {
		text string
		n    int
		p, q string
	}{
		{"r2", 10, "7", "5"}, {"r2", 16, "17", "12"}, {"1/2", 1, "0", "1"}, {"314159/100000", 10, "22", "7"}, {"-1/2", 1, "-1", "1"},
		{"0", 1, "0", "1"}, {"0", 1000, "0", "1"}, {"7", 1, "7", "1"}, {"-7", 1000, "-7", "1"}, {"6/4", 1000, "3", "2"}, {"-6/4", 2, "-3", "2"}, {"43/19", 19, "43", "19"}, {"43/19", 18, "34", "15"}, {"-43/19", 18, "-34", "15"},
		{"r2", 1, "1", "1"}, {"-r2", 1, "-1", "1"}, {"r3", 1, "2", "1"}, {"-r3", 1, "-2", "1"}, {"r2", 1000, "1393", "985"}, {"-r2", 1000, "-1393", "985"}, {"r2", 984, "816", "577"}, {"-r2", 984, "-816", "577"}, {"r2", 985, "1393", "985"}, {"(1+r5)/2", 1000, "1597", "987"}, {"(1+r5)/2", 986, "987", "610"},
		{"3/2", 1, "1", "1"}, {"-3/2", 1, "-2", "1"}, {"5/2", 1, "2", "1"}, {"-5/2", 1, "-3", "1"}, {"1/4", 2, "0", "1"}, {"-1/4", 2, "0", "1"}, {"3/4", 2, "1", "1"}, {"-3/4", 2, "-1", "1"}, {"5/4", 2, "1", "1"}, {"5/12", 3, "1", "2"}, {"-5/12", 3, "-1", "2"}, {"7/12", 3, "1", "2"},
		{"1/2000", 1000, "0", "1"}, {"1/1999", 1000, "1", "1000"}, {"1/2001", 1000, "0", "1"}, {"-1/2000", 1000, "0", "1"}, {"-1/1999", 1000, "-1", "1000"}, {"1999/1998000", 1000, "1", "999"}, {"1999/1998001", 1000, "1", "1000"}, {"1999/2000", 1000, "1", "1"}, {"1999/2001", 1000, "999", "1000"}, {"1/1001", 1000, "1", "1000"}, {"1/1000", 1000, "1", "1000"},
		{"1/2+1/999999999999999999", 1, "1", "1"}, {"1/2-1/999999999999999999", 1, "0", "1"}, {"1/2+r2/999999999999999999", 1, "1", "1"}, {"1/2-r2/999999999999999999", 1, "0", "1"}, {"r2/999999999999999999-1/2", 1, "0", "1"}, {"-1/2-r2/999999999999999999", 1, "-1", "1"},
		{"1/2000+r2/999999999999999999", 1000, "1", "1000"}, {"1/2000-r2/999999999999999999", 1000, "0", "1"}, {"3/7+r2/999999999999999999", 1000, "3", "7"}, {"3/7-r2/999999999999999999", 7, "3", "7"}, {"3/7-r2/999999999999999999", 6, "2", "5"},
		{"999999999999999999+r2", 5, "5000000000000000002", "5"}, {"-999999999999999999*999999999999999999-1/2", 1, "-999999999999999998000000000000000002", "1"}, {"999999999999999999*999999999999999999+1/2", 1, "999999999999999998000000000000000001", "1"},
	} {
		checkBest(t, c.text, c.n, c.p, c.q)
	}
}

func TestP8Errors(t *testing.T) {
	long := repeat("1", 101)
	for _, c := range []struct {
		text string
		n    int
		want api.Errno
	}{
		{"r2", 0, api.ErrArg}, {"r2", 1001, api.ErrArg}, {"r2", -1, api.ErrArg}, {"5", 0, api.ErrArg}, {"5", 1001, api.ErrArg}, {"5", math.MinInt, api.ErrArg}, {"5", math.MaxInt, api.ErrArg}, {"5", math.MinInt32, api.ErrArg}, {"5", math.MaxInt32, api.ErrArg},
		{"", 1, api.ErrText}, {"1+", 1, api.ErrText}, {"1/0", 1, api.ErrZero}, {"r2+r3", 1, api.ErrRoots}, {long, 1, api.ErrLong},
		{"x", 0, api.ErrText}, {"x", 1001, api.ErrText}, {"1/0", 0, api.ErrZero}, {"r2+r3", 1001, api.ErrRoots}, {long, 0, api.ErrLong},
	} {
		if p, q, err := Best(c.text, c.n); p != "" || q != "" || err != c.want {
			t.Errorf("P8: Best(%.30q, %d) = %q, %q, %d, want %d", c.text, c.n, p, q, err, c.want)
		}
	}
}

// bestOfSmall looks at all fractions p/q from far below to far above a/b; each is met first in lowest terms.
func bestOfSmall(a int, b int, n int) (int, int) {
	bestP, bestQ := 0, 0
	for q := 1; q <= n; q++ {
		for p := -4 * q; p <= 4*q; p++ {
			// |p/q - a/b| times b*q, against |bestP/bestQ - a/b| times b*bestQ.
			if bestQ == 0 || distance(p*b, a*q)*bestQ < distance(bestP*b, a*bestQ)*q {
				bestP, bestQ = p, q
			}
		}
	}
	return bestP, bestQ
}

func distance(a int, b int) int {
	return max(a-b, b-a)
}

func TestP8AllSmallFractions(t *testing.T) {
	for b := 1; b <= 24; b++ {
		for a := -2*b - 1; a <= 2*b+1; a++ {
			text := fmt.Sprintf("%d/%d", a, b)
			for n := 1; n <= min(b+1, 16); n++ {
				p, q := bestOfSmall(a, b, n)
				checkBest(t, text, n, strconv.Itoa(p), strconv.Itoa(q))
			}
		}
	}
}

// The values just between two fractions that are next to each other, and a little beside.
func TestP8JustBetween(t *testing.T) {
	const little = "/999999999999999999"
	for n := 1; n <= 30; n++ {
		// All fractions with denominators up to n, from -1 to 1, each from the two ahead of it.
		a, b, c, d := -1, 1, 1-n, n
		for a < b {
			middle := fmt.Sprintf("(%d)/%d", a*d+b*c, 2*b*d)
			wantP, wantQ := a, b
			if d < b {
				wantP, wantQ = c, d
			}
			checkBest(t, middle, n, strconv.Itoa(wantP), strconv.Itoa(wantQ))
			for _, more := range []string{"1", "r2"} {
				checkBest(t, middle+"-"+more+little, n, strconv.Itoa(a), strconv.Itoa(b))
				checkBest(t, middle+"+"+more+little, n, strconv.Itoa(c), strconv.Itoa(d))
			}
			times := (n + b) / d
			a, b, c, d = c, d, times*c-a, times*d-b
		}
	}
}

func TestP8AgainstTheSecondWay(t *testing.T) {
	source := rand.New(rand.NewSource(12))
	rational, others := 0, 0
	for rational < 150 || others < 150 {
		text, tree := randomExpression(source)
		value, err, _ := reckon(tree)
		if err != api.OK || (value.d == 1 && rational >= 300) {
			continue
		}
		n := []int{1, 2, 3, 1 + source.Intn(20), 1 + source.Intn(200)}[source.Intn(5)]
		if source.Intn(20) == 0 {
			n = 1 + source.Intn(api.MaxBottom)
		}
		p, q := bestOf(value, n)
		checkBest(t, text, n, p, q)
		if value.d == 1 {
			rational++
		} else {
			others++
		}
	}
}

// Values that lie among fractions with denominators up to MaxBottom, rational and not.
func TestP8EveryKindOfN(t *testing.T) {
	source := rand.New(rand.NewSource(13))
	for i := range 120 {
		text := fmt.Sprintf("(%d+%d*r%d)/%d", source.Intn(5000), source.Intn(3), 2+source.Intn(30), 1+source.Intn(3000))
		if i%2 == 0 {
			text = "-" + text
		}
		value, err := Value(text)
		if err != api.OK {
			t.Fatalf("P8: Value(%q) tells %d", text, err)
		}
		n := []int{api.MaxBottom, api.MaxBottom - 1, 1 + source.Intn(api.MaxBottom)}[i%3]
		p, q := bestOf(valueOf(value), n)
		checkBest(t, text, n, p, q)
	}
}

func TestP8GreatNumbers(t *testing.T) {
	for _, text := range greatTexts() {
		value, err := Value(text)
		if err != api.OK {
			t.Fatalf("P8: Value(%q) tells %d", text, err)
		}
		for _, n := range []int{1, 2, 100, api.MaxBottom} {
			p, q := bestOf(valueOf(value), n)
			checkBest(t, text, n, p, q)
		}
	}
}
