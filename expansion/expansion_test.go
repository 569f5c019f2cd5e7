package expansion

import (
	"strings"
	"testing"

	"surd/api"
	"surd/exact"
)

// fromText makes a number of a whole number's text.
func fromText(t *testing.T, text string) exact.Number {
	t.Helper()
	n := exact.FromInt(0)
	for _, digit := range strings.TrimPrefix(text, "-") {
		n = must(t)(exact.Multiply(n, exact.FromInt(10)))
		n = must(t)(exact.Add(n, exact.FromInt(int64(digit-'0'))))
	}
	if strings.HasPrefix(text, "-") {
		n = exact.Negate(n)
	}
	return n
}

func must(t *testing.T) func(exact.Number, api.Errno) exact.Number {
	return func(n exact.Number, err api.Errno) exact.Number {
		t.Helper()
		if err != api.OK {
			t.Fatal(err)
		}
		return n
	}
}

// number answers (p + q√d)/r.
func number(t *testing.T, p int64, q int64, r int64, d int) exact.Number {
	t.Helper()
	root := must(t)(exact.Multiply(exact.FromInt(q), exact.Root(d)))
	above := must(t)(exact.Add(exact.FromInt(p), root))
	return must(t)(exact.Divide(above, exact.FromInt(r)))
}

// checkExpansion goes by the words of the document: each term is the greatest whole number that is not above x, and then 1/(x - t) takes the place of x.
func checkExpansion(t *testing.T, x exact.Number, steps int) {
	t.Helper()
	begin := x.Form()
	rest := Of(x)
	for i := range steps {
		if rest.Ended() {
			t.Fatalf("the expansion of %+v ends ahead of term %d", begin, i)
		}
		number, behind := rest.Next()
		again, _ := rest.Next()
		if number.Text() != again.Text() {
			t.Fatalf("term %d of %+v is %s, and then %s", i, begin, number.Text(), again.Text())
		}
		term := fromText(t, number.Text())
		above := must(t)(exact.Add(term, exact.FromInt(1)))
		if exact.Compare(term, x) > 0 || exact.Compare(above, x) <= 0 {
			t.Fatalf("term %d of %+v is %s", i, begin, number.Text())
		}
		rest = behind
		left := must(t)(exact.Subtract(x, term))
		if left.Form() == exact.FromInt(0).Form() {
			if !rest.Ended() {
				t.Fatalf("the expansion of %+v does not end behind term %d", begin, i)
			}
			return
		}
		x = must(t)(exact.Divide(exact.FromInt(1), left))
	}
}

func TestSmall(t *testing.T) {
	for p := int64(-7); p <= 7; p++ {
		for q := int64(-4); q <= 4; q++ {
			for r := int64(1); r <= 6; r++ {
				for _, d := range []int{2, 3, 5, 7, 30} {
					checkExpansion(t, number(t, p, q, r, d), 12)
				}
			}
		}
	}
}

func TestRational(t *testing.T) {
	for p := int64(-60); p <= 60; p++ {
		for r := int64(1); r <= 60; r++ {
			checkExpansion(t, number(t, p, 0, r, 1), 12)
		}
	}
}

func TestLarge(t *testing.T) {
	const nines = 999999999999999999
	for _, sign := range []int64{1, -1} {
		for _, d := range []int{1, 2, 999983, 999999} {
			checkExpansion(t, number(t, sign*nines, nines, 1000000007, d), 100)
			checkExpansion(t, number(t, nines, sign*nines, 1, d), 100)
			checkExpansion(t, number(t, sign, sign, nines, d), 100)
			checkExpansion(t, number(t, nines-1, sign*1234567, nines, d), 100)
		}
	}
}

// Behind the end nothing comes, however often it is asked for.
func TestBehindTheEnd(t *testing.T) {
	for _, rest := range []Rest{{}, Of(exact.Number{})} {
		if !rest.Ended() {
			t.Error("nothing does not end")
		}
	}
	_, rest := Of(exact.FromInt(7)).Next()
	for range 3 {
		if !rest.Ended() {
			t.Fatal("the expansion of 7 does not end behind its term")
		}
		term, behind := rest.Next()
		if term.Text() != "0" {
			t.Errorf("behind the end comes %s", term.Text())
		}
		rest = behind
	}
}
