package line

import (
	"math/big"
	"math/rand"
	"testing"

	"surd/whole"
)

func number(t *testing.T, n *big.Int) whole.Number {
	t.Helper()
	made, fits := whole.FromText(n.String())
	if !fits {
		t.Fatalf("%s is no whole number's text", n)
	}
	return made
}

// first tries x from 0 on: with b not 0, the least one of a solution is below it, whatever its sign.
func first(a int64, b int64, c int64) (int64, int64, bool) {
	if b == 0 {
		for x := int64(-100); x <= 100; x++ {
			if a*x == c {
				return x, 0, true
			}
		}
		return 0, 0, false
	}
	for x := int64(0); x < max(b, -b); x++ {
		if (c-a*x)%b == 0 {
			return x, (c - a*x) / b, true
		}
	}
	return 0, 0, false
}

func TestSmall(t *testing.T) {
	for a := int64(-16); a <= 16; a++ {
		for b := int64(-16); b <= 16; b++ {
			for c := int64(-40); c <= 40 && (a != 0 || b != 0); c++ {
				wantX, wantY, want := first(a, b, c)
				x, y, found := Solve(whole.FromInt(a), whole.FromInt(b), whole.FromInt(c))
				if x.Text() != whole.FromInt(wantX).Text() || y.Text() != whole.FromInt(wantY).Text() || found != want {
					t.Errorf("%dx + %dy = %d: %s, %s, %v, want %d, %d, %v", a, b, c, x.Text(), y.Text(), found, wantX, wantY, want)
				}
			}
		}
	}
}

func random(source *rand.Rand) *big.Int {
	most := new(big.Int).Exp(big.NewInt(10), big.NewInt(int64(source.Intn(70))), nil)
	n := new(big.Int).Rand(source, most)
	if source.Intn(2) == 0 {
		n.Neg(n)
	}
	return n
}

// What is found solves the equation, and one step of x less would be below 0.
func TestLarge(t *testing.T) {
	source := rand.New(rand.NewSource(1))
	for range 5000 {
		a, b, c := random(source), random(source), random(source)
		if b.Sign() == 0 {
			continue
		}
		divisor := new(big.Int).GCD(nil, nil, new(big.Int).Abs(a), new(big.Int).Abs(b))
		c.Sub(c, new(big.Int).Rem(c, divisor))
		x, y, found := Solve(number(t, a), number(t, b), number(t, c))
		bigX, _ := new(big.Int).SetString(x.Text(), 10)
		bigY, _ := new(big.Int).SetString(y.Text(), 10)
		sum := new(big.Int).Mul(a, bigX)
		sum.Add(sum, new(big.Int).Mul(b, bigY))
		step := new(big.Int).Abs(b)
		step.Quo(step, divisor)
		if !found || sum.Cmp(c) != 0 || bigX.Sign() < 0 || bigX.Cmp(step) >= 0 {
			t.Fatalf("%sx + %sy = %s: %s, %s, %v", a, b, c, bigX, bigY, found)
		}
		if divisor.Cmp(big.NewInt(1)) > 0 {
			none := new(big.Int).Add(c, big.NewInt(1))
			if _, _, found := Solve(number(t, a), number(t, b), number(t, none)); found {
				t.Fatalf("%sx + %sy = %s is said to have a solution", a, b, none)
			}
		}
	}
}

// No call goes on without end, or stops the program, if a and b are both 0.
func TestOfNothing(t *testing.T) {
	zero := whole.FromInt(0)
	for _, c := range []int64{-1, 0, 1} {
		if x, y, found := Solve(zero, zero, whole.FromInt(c)); x.Sign() != 0 || y.Sign() != 0 || found != (c == 0) {
			t.Errorf("0x + 0y = %d: %s, %s, %v", c, x.Text(), y.Text(), found)
		}
	}
}
