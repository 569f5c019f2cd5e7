package surd

import (
	"math"
	"math/big"
	"testing"

	"surd/api"
)

func checkPell(t *testing.T, d int, wantX string, wantY string) {
	t.Helper()
	if x, y, err := Pell(d); x != wantX || y != wantY || err != api.OK {
		t.Errorf("P10: Pell(%d) = %s, %s, %d, want %s, %s", d, x, y, err, wantX, wantY)
	}
}

func TestP10Pell(t *testing.T) {
	for _, c := range []struct {
		d    int
		x, y string
	}{
		{2, "3", "2"}, {13, "649", "180"}, {61, "1766319049", "226153980"},
		{3, "2", "1"}, {5, "9", "4"}, {6, "5", "2"}, {7, "8", "3"}, {8, "3", "1"}, {10, "19", "6"}, {11, "10", "3"}, {12, "7", "2"}, {15, "4", "1"}, {17, "33", "8"}, {18, "17", "4"}, {19, "170", "39"}, {24, "5", "1"}, {50, "99", "14"},
		{29, "9801", "1820"}, {41, "2049", "320"}, {46, "24335", "3588"}, {92, "1151", "120"}, {94, "2143295", "221064"}, {109, "158070671986249", "15140424455100"}, {181, "2469645423824185801", "183567298683461940"}, {277, "159150073798980475849", "9562401173878027020"}, {410, "81", "4"},
		{661, "16421658242965910275055840472270471049", "638728478116949861246791167518480580"}, {1763, "42", "1"}, {1766, "1765", "42"}, {1935, "44", "1"}, {1937, "3873", "88"}, {1861, "7077752008438005001", "164067346843752900"},
		{1621, "6298101812493732343034974500091457815529942308667051412857352310169665125001", "156429324369979112128445583345098338627552043874824108399177922442751050500"},
		{1999, "4027701399389138208695911951306886478800", "90084665203202024260494303744425250249"}, {2000, "930249", "20801"},
	} {
		checkPell(t, c.d, c.x, c.y)
	}
}

func TestP10Errors(t *testing.T) {
	wrong := []int{math.MinInt, math.MinInt32, -2000, -61, -4, -2, -1, 0, 1, 2001, 2002, 2025, 2026, 10000, math.MaxInt32, math.MaxInt}
	for m := 1; m*m <= api.MaxPell; m++ {
		wrong = append(wrong, m*m)
	}
	for _, d := range wrong {
		if x, y, err := Pell(d); x != "" || y != "" || err != api.ErrArg {
			t.Errorf("P10: Pell(%d) = %q, %q, %d, want %d", d, x, y, err, api.ErrArg)
		}
	}
}

// allPell answers every d that Pell solves.
func allPell() []int {
	list := []int{}
	for d := 2; d <= api.MaxPell; d++ {
		if root := floorRoot(d); root*root != d {
			list = append(list, d)
		}
	}
	return list
}

func floorRoot(n int) int {
	root := 0
	for (root+1)*(root+1) <= n {
		root++
	}
	return root
}

// turns goes by the old way that is called chakravala: from a² - db² = k to a lesser such k, with an m that makes a + bm a multiple of k and m² - d as small as may be, until k is 1.
func turns(d int) (*big.Int, *big.Int) {
	root := floorRoot(d)
	if distance((root+1)*(root+1), d) < distance(root*root, d) {
		root++
	}
	a, b, k := big.NewInt(int64(root)), big.NewInt(1), root*root-d
	for k != 1 {
		size := big.NewInt(int64(distance(k, 0)))
		best := 0
		for m := 1; m <= floorRoot(d)+distance(k, 0)+1; m++ {
			sum := new(big.Int).Mul(b, big.NewInt(int64(m)))
			sum.Add(sum, a).Rem(sum, size)
			if sum.Sign() == 0 && (best == 0 || distance(m*m, d) < distance(best*best, d)) {
				best = m
			}
		}
		nextA := new(big.Int).Mul(a, big.NewInt(int64(best)))
		nextA.Add(nextA, new(big.Int).Mul(b, big.NewInt(int64(d))))
		nextB := new(big.Int).Mul(b, big.NewInt(int64(best)))
		nextB.Add(nextB, a)
		a, b, k = nextA.Quo(nextA, size), nextB.Quo(nextB, size), (best*best-d)/k
	}
	return a, b
}

func TestP10EveryDAgainstTheSecondWay(t *testing.T) {
	for _, d := range allPell() {
		x, y := turns(d)
		checkPell(t, d, x.String(), y.String())
	}
}

// Where a small y does, it is the least one of all that are tried.
func TestP10EveryDSmallSolutions(t *testing.T) {
	for _, d := range allPell() {
		x := int64(floorRoot(d))
		for y := int64(1); y <= 3000; y++ {
			square := int64(d)*y*y + 1
			for (x+1)*(x+1) <= square {
				x++
			}
			if x*x == square {
				checkPell(t, d, big.NewInt(x).String(), big.NewInt(y).String())
				break
			}
			if y == 3000 {
				checkGreater(t, d, y)
			}
		}
	}
}

func checkGreater(t *testing.T, d int, least int64) {
	t.Helper()
	_, y, err := Pell(d)
	if n, fits := new(big.Int).SetString(y, 10); err != api.OK || !fits || n.Cmp(big.NewInt(least)) <= 0 {
		t.Errorf("P10: the y of Pell(%d) is %s, %d, want more than %d", d, y, err, least)
	}
}

// power answers the x of the power n of a + b√d, if a² - db² is 1.
func power(a *big.Int, n int) *big.Int {
	last, next := big.NewInt(1), new(big.Int).Set(a)
	twice := new(big.Int).Add(a, a)
	for range n - 1 {
		behind := new(big.Int).Mul(twice, next)
		last, next = next, behind.Sub(behind, last)
	}
	return next
}

// isPowerOfSolution looks for a solution whose power n has x. Such a power is greater than that of its own x, which bounds it.
func isPowerOfSolution(x *big.Int, n int, d int) bool {
	one := big.NewInt(1)
	low, high := big.NewInt(1), new(big.Int).Lsh(one, uint(x.BitLen()/n+1))
	for low.Cmp(high) < 0 {
		middle := new(big.Int).Add(low, high)
		middle.Rsh(middle, 1)
		if power(middle, n).Cmp(x) < 0 {
			low = middle.Add(middle, one)
		} else {
			high = middle
		}
	}
	if power(low, n).Cmp(x) != 0 {
		return false
	}
	square := new(big.Int).Mul(low, low)
	square.Sub(square, one)
	quotient, rest := square.QuoRem(square, big.NewInt(int64(d)), new(big.Int))
	root := new(big.Int).Sqrt(quotient)
	return rest.Sign() == 0 && root.Mul(root, root).Cmp(quotient) == 0
}

// All solutions are powers of the least one: what is told is a solution, and no power of another one.
func TestP10EveryDIsNoPower(t *testing.T) {
	for _, d := range allPell() {
		xText, yText, err := Pell(d)
		x, one := new(big.Int).SetString(xText, 10)
		y, two := new(big.Int).SetString(yText, 10)
		if err != api.OK || !one || !two || x.Sign() <= 0 || y.Sign() <= 0 {
			t.Fatalf("P10: Pell(%d) = %q, %q, %d", d, xText, yText, err)
		}
		norm := new(big.Int).Mul(x, x)
		norm.Sub(norm, new(big.Int).Mul(big.NewInt(int64(d)), new(big.Int).Mul(y, y)))
		if norm.Cmp(big.NewInt(1)) != 0 {
			t.Errorf("P10: Pell(%d) = %s, %s is no solution", d, x, y)
		}
		for n := 2; n <= x.BitLen(); n++ {
			if isPrime(n) && isPowerOfSolution(x, n, d) {
				t.Errorf("P10: Pell(%d) = %s, %s is not the least: there is one whose power %d it is", d, x, y, n)
			}
		}
	}
}

func isPrime(n int) bool {
	for i := 2; i*i <= n; i++ {
		if n%i == 0 {
			return false
		}
	}
	return true
}
