package expansion

import (
	"math"
	"testing"

	"surd/exact"
	"surd/whole"
)

// distanceTo answers how far a fraction is from x.
func distanceTo(t *testing.T, x exact.Number, p int64, q int64) exact.Number {
	t.Helper()
	away := must(t)(exact.Subtract(x, number(t, p, 0, q, 1)))
	if exact.Compare(away, exact.FromInt(0)) < 0 {
		return exact.Negate(away)
	}
	return away
}

// best looks at all fractions from -most to most with denominators up to n; each is met first in lowest terms.
func best(t *testing.T, x exact.Number, most int64, n int64) (int64, int64) {
	t.Helper()
	bestP, bestQ := -most, int64(1)
	least := distanceTo(t, x, bestP, bestQ)
	for q := int64(1); q <= n; q++ {
		for p := -most * q; p <= most*q; p++ {
			if away := distanceTo(t, x, p, q); exact.Compare(away, least) < 0 {
				bestP, bestQ, least = p, q, away
			}
		}
	}
	return bestP, bestQ
}

func TestBest(t *testing.T) {
	for p := int64(-5); p <= 5; p++ {
		for q := int64(-1); q <= 1; q++ {
			for r := int64(2); r <= 8; r++ {
				x := number(t, p, q, r, 2)
				for n := int64(1); n <= 6; n++ {
					wantP, wantQ := best(t, x, 4, n)
					gotP, gotQ := Best(x, int(n)).Texts()
					if gotP != whole.FromInt(wantP).Text() || gotQ != whole.FromInt(wantQ).Text() {
						t.Errorf("Best of %+v up to %d is %s/%s, want %d/%d", x.Form(), n, gotP, gotQ, wantP, wantQ)
					}
				}
			}
		}
	}
}

// With each further term of x the values lie nearer to it, on its two sides by turns, and in lowest terms.
func TestNear(t *testing.T) {
	for _, x := range []exact.Number{number(t, 0, 1, 1, 2), number(t, -3, -2, 5, 7), number(t, 1, 1, 2, 5), number(t, 999999999999999999, -1, 7, 999983)} {
		for n := 1; n <= 40; n++ {
			value := Near(x, n)
			fraction := exact.Quotient(value.p, value.q)
			p, q := value.Texts()
			if form := fraction.Form(); form.P != p || form.R != q {
				t.Errorf("the value of %d terms of %+v is %s/%s", n, x.Form(), p, q)
			}
			side := []int{1, -1}[n%2]
			if got := exact.Compare(fraction, x); got != side {
				t.Errorf("the value of %d terms of %+v is %s/%s: on the side %d", n, x.Form(), p, q, got)
			}
		}
	}
}

// No call goes on without end, or stops the program, where there is no answer.
func TestFractionsOfNothing(t *testing.T) {
	for _, n := range []int{0, -1, math.MinInt} {
		for _, x := range []exact.Number{{}, exact.FromInt(0), number(t, 7, 0, 3, 1), number(t, 0, 1, 1, 2)} {
			if p, q := Near(x, n).Texts(); p != "1" || q != "0" {
				t.Errorf("Near of %d terms is %s/%s", n, p, q)
			}
			Best(x, n)
		}
	}
	rational := number(t, 7, 0, 3, 1)
	for _, value := range []Fraction{Near(rational, math.MaxInt), Best(rational, math.MaxInt)} {
		if p, q := value.Texts(); p != "7" || q != "3" {
			t.Errorf("of 7/3 comes %s/%s", p, q)
		}
	}
}
