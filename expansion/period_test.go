package expansion

import (
	"math"
	"testing"

	"surd/exact"
)

func TestPeriod(t *testing.T) {
	for _, c := range []struct {
		x           exact.Number
		ahead, long int
	}{
		{number(t, 0, 1, 1, 2), 1, 1}, {number(t, 1, 1, 1, 2), 0, 1}, {number(t, 0, 1, 1, 7), 1, 4}, {number(t, 1, 1, 2, 5), 0, 1}, {number(t, 1, -1, 2, 5), 2, 1}, {number(t, 0, 1, 1, 94), 1, 16}, {number(t, 0, 1, 1, 11341), 1, 200},
	} {
		together := c.ahead + c.long
		for _, most := range []int{together, together + 1, 1000} {
			ahead, long, found := Period(c.x, most)
			if ahead != c.ahead || long != c.long || !found {
				t.Errorf("Period of %+v within %d is %d, %d, %v, want %d, %d", c.x.Form(), most, ahead, long, found, c.ahead, c.long)
			}
		}
		for _, most := range []int{together - 1, 0, -1, math.MinInt} {
			ahead, long, found := Period(c.x, most)
			if ahead != 0 || long != 0 || found {
				t.Errorf("Period of %+v within %d is %d, %d, %v", c.x.Form(), most, ahead, long, found)
			}
		}
	}
}

// A list that ends has no period.
func TestPeriodOfRational(t *testing.T) {
	for _, x := range []exact.Number{{}, exact.FromInt(0), number(t, -7, 0, 3, 1), number(t, 1, 1, 2, 9)} {
		if ahead, long, found := Period(x, 1000); ahead != 0 || long != 0 || found {
			t.Errorf("Period of %+v is %d, %d, %v", x.Form(), ahead, long, found)
		}
	}
}
