package exact

import (
	"math/big"
	"testing"

	"surd/api"
	"surd/whole"
)

// approximate answers the number to some 600 digits.
func approximate(a Number) *big.Float {
	const bits = 2000
	form := a.Form()
	parts := [3]*big.Float{}
	for i, text := range []string{form.P, form.Q, form.R} {
		parts[i], _ = new(big.Float).SetPrec(bits).SetString(text)
	}
	root := new(big.Float).SetPrec(bits).SetInt64(int64(form.D))
	root.Sqrt(root)
	above := new(big.Float).SetPrec(bits).Mul(parts[1], root)
	above.Add(above, parts[0])
	return above.Quo(above, parts[2])
}

// checkAllPairs wants forms that are so small that two different numbers differ within the first 600 digits.
func checkAllPairs(t *testing.T, list []Number) {
	t.Helper()
	near := []*big.Float{}
	for _, a := range list {
		near = append(near, approximate(a))
	}
	for i, a := range list {
		for j, b := range list {
			want := near[i].Cmp(near[j])
			if a.Form() == b.Form() {
				want = 0
			}
			if got := Compare(a, b); got != want {
				t.Fatalf("Compare(%+v, %+v) = %d, want %d", a.Form(), b.Form(), got, want)
			}
		}
	}
}

func TestCompareSmall(t *testing.T) {
	list := []Number{}
	for p := int64(-4); p <= 4; p++ {
		for q := int64(-3); q <= 3; q++ {
			for _, d := range []int{2, 3, 6, 7} {
				list = append(list, number(t, p, q, 1, d), number(t, p, q, 3, d), number(t, p, q, -2, d))
			}
		}
	}
	checkAllPairs(t, list)
}

// Powers of √2 - 1, 2 - √3 and 1/(2 + √5) are very small, though their forms have large numbers in them.
func TestCompareNear(t *testing.T) {
	list := []Number{FromInt(0)}
	for _, base := range []Number{number(t, -1, 1, 1, 2), number(t, 2, -1, 1, 3), number(t, -2, 1, 1, 5), number(t, 1, 0, 5, 1), number(t, 9999, -101, 101, 9801+2)} {
		power := FromInt(1)
		for range 40 {
			next, err := Multiply(power, base)
			if err != api.OK {
				t.Fatal(err)
			}
			power = next
			shifted, err := Subtract(power, FromInt(3))
			if err != api.OK {
				t.Fatal(err)
			}
			list = append(list, power, Negate(power), shifted, Negate(shifted))
		}
	}
	checkAllPairs(t, list)
}

// The product of the two roots does not fit into 32 bits, nor do the squares into 64.
func TestCompareLarge(t *testing.T) {
	list := []Number{}
	for _, n := range []int{999979, 999983, 999985, 999986, 999989} {
		for _, q := range []int64{1, 999999999999999999, 1000000000000000000} {
			list = append(list, number(t, 0, q, 1, n), number(t, -999999, q, 1000, n), number(t, 7, -q, 999999999999999999, n))
		}
	}
	checkAllPairs(t, list)
}

// The signs are right for all roots, those that are squares and those that are the same among them.
func TestSignOfThree(t *testing.T) {
	near := [10]*big.Float{}
	for k := range near {
		near[k] = new(big.Float).SetPrec(300).SetInt64(int64(k))
		near[k].Sqrt(near[k])
	}
	// A sum of so small numbers that is not 0 is greater by far.
	least := new(big.Float).SetMantExp(big.NewFloat(1), -100)
	part := func(factor int64, k int64) *big.Float {
		return new(big.Float).SetPrec(300).Mul(big.NewFloat(float64(factor)), near[k])
	}
	for i := range int64(9 * 9 * 9 * 9 * 9) {
		x, y, z, m, n := i%9-4, i/9%9-4, i/81%9-4, i/729%9+1, i/6561+1
		sum := part(x, 1)
		sum.Add(sum, part(y, m))
		sum.Add(sum, part(z, n))
		want := 0
		if new(big.Float).Abs(sum).Cmp(least) > 0 {
			want = sum.Sign()
		}
		got := signOfThree(whole.FromInt(x), whole.FromInt(y), whole.FromInt(m), whole.FromInt(z), whole.FromInt(n))
		if got != want {
			t.Fatalf("the sign of %d + %d√%d + %d√%d is told as %d", x, y, m, z, n, got)
		}
	}
}
