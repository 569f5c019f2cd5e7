package expansion

import (
	"math"
	"testing"
)

func TestPell(t *testing.T) {
	for _, c := range []struct {
		d    int
		x, y string
	}{
		{2, "3", "2"}, {3, "2", "1"}, {8, "3", "1"}, {13, "649", "180"}, {61, "1766319049", "226153980"}, {999999, "1000", "1"}, {1000001, "2000001", "2000"},
	} {
		if x, y := Pell(c.d).Texts(); x != c.x || y != c.y {
			t.Errorf("Pell(%d) is %s, %s, want %s, %s", c.d, x, y, c.x, c.y)
		}
	}
}

// Where there is no solution, no call goes on without end.
func TestPellOfNothing(t *testing.T) {
	for _, d := range []int{math.MinInt, math.MinInt32, -2, -1, 0, 1, 4, 9, 1936, 46340 * 46340} {
		Pell(d)
	}
}
