package whole

import (
	"math"
	"math/big"
	"math/rand"
	"strings"
	"testing"
)

// fromText makes a Number of a whole number's text by way of the calls that are tested.
func fromText(text string) Number {
	digits := strings.TrimPrefix(text, "-")
	n := FromInt(0)
	for i := range len(digits) {
		n = Add(Multiply(n, FromInt(10)), FromInt(int64(digits[i]-'0')))
	}
	if strings.HasPrefix(text, "-") {
		n = Negate(n)
	}
	return n
}

// samples has numbers of many lengths; their limbs are often those at which a carry or an estimate can go wrong.
func samples() []*big.Int {
	source := rand.New(rand.NewSource(1))
	edges := []int64{0, 0, 1, 2, base/2 - 1, base / 2, base/2 + 1, base - 2, base - 1, base - 1}
	list := []*big.Int{}
	for length := 0; length <= 7; length++ {
		for range 9 {
			n := new(big.Int)
			for range length {
				limb := source.Int63n(base)
				if source.Intn(4) > 0 {
					limb = edges[source.Intn(len(edges))]
				}
				n.Mul(n, big.NewInt(base))
				n.Add(n, big.NewInt(limb))
			}
			list = append(list, n, new(big.Int).Neg(n))
		}
	}
	return list
}

// same tells whether n is the number want, in the one shape that a number has.
func same(n Number, want *big.Int) bool {
	if len(n.limbs) > 0 && n.limbs[len(n.limbs)-1] == 0 {
		return false
	}
	for _, limb := range n.limbs {
		if limb < 0 || limb >= base {
			return false
		}
	}
	return n.Text() == want.String() && n.Sign() == want.Sign()
}

func TestFromInt(t *testing.T) {
	for _, n := range []int64{0, 1, -1, 9, 10, base - 1, base, base + 1, -base, base * base, base*base - 1, math.MaxInt64, math.MinInt64, math.MinInt64 + 1} {
		if got := FromInt(n); !same(got, big.NewInt(n)) {
			t.Errorf("FromInt(%d) = %s", n, got.Text())
		}
	}
}

func TestZeroNumber(t *testing.T) {
	if !same(Number{}, new(big.Int)) || !same(Negate(Number{}), new(big.Int)) {
		t.Error("the zero Number is not 0")
	}
}

func TestTextAndNegate(t *testing.T) {
	for _, a := range samples() {
		n := fromText(a.String())
		if !same(n, a) {
			t.Errorf("%s comes out as %s", a, n.Text())
		}
		if got := Negate(n); !same(got, new(big.Int).Neg(a)) {
			t.Errorf("Negate(%s) = %s", a, got.Text())
		}
	}
}

func TestPairs(t *testing.T) {
	list := samples()
	numbers := []Number{}
	for _, a := range list {
		numbers = append(numbers, fromText(a.String()))
	}
	for i, a := range list {
		for j, b := range list {
			if got, want := Add(numbers[i], numbers[j]), new(big.Int).Add(a, b); !same(got, want) {
				t.Fatalf("%s + %s = %s, want %s", a, b, got.Text(), want)
			}
			if got, want := Subtract(numbers[i], numbers[j]), new(big.Int).Sub(a, b); !same(got, want) {
				t.Fatalf("%s - %s = %s, want %s", a, b, got.Text(), want)
			}
			if got, want := Multiply(numbers[i], numbers[j]), new(big.Int).Mul(a, b); !same(got, want) {
				t.Fatalf("%s * %s = %s, want %s", a, b, got.Text(), want)
			}
			if got, want := Compare(numbers[i], numbers[j]), a.Cmp(b); got != want {
				t.Fatalf("Compare(%s, %s) = %d, want %d", a, b, got, want)
			}
			if got, want := Divisor(numbers[i], numbers[j]), new(big.Int).GCD(nil, nil, new(big.Int).Abs(a), new(big.Int).Abs(b)); !same(got, want) {
				t.Fatalf("Divisor(%s, %s) = %s, want %s", a, b, got.Text(), want)
			}
		}
	}
	for i, a := range list {
		if !same(numbers[i], a) {
			t.Fatalf("%s was changed by a call", a)
		}
	}
}

func checkDivide(t *testing.T, a *big.Int, b *big.Int) {
	t.Helper()
	x, y := fromText(a.String()), fromText(b.String())
	quotient, remainder := Divide(x, y)
	wantQuotient, wantRemainder := new(big.Int), new(big.Int).Set(a)
	if b.Sign() != 0 {
		wantQuotient.QuoRem(a, b, wantRemainder)
	}
	if !same(quotient, wantQuotient) || !same(remainder, wantRemainder) {
		t.Fatalf("%s / %s = %s rest %s, want %s rest %s", a, b, quotient.Text(), remainder.Text(), wantQuotient, wantRemainder)
	}
	if got, want := Floor(x, y), floor(a, b); !same(got, want) {
		t.Fatalf("Floor(%s, %s) = %s, want %s", a, b, got.Text(), want)
	}
}

// floor goes by a divisor above 0, of which math/big knows the quotient that is rounded downward.
func floor(a *big.Int, b *big.Int) *big.Int {
	switch b.Sign() {
	case 0:
		return new(big.Int)
	case -1:
		return floor(new(big.Int).Neg(a), new(big.Int).Neg(b))
	}
	return new(big.Int).Div(a, b)
}

func checkRoot(t *testing.T, a *big.Int) {
	t.Helper()
	want := new(big.Int)
	if a.Sign() > 0 {
		want.Sqrt(a)
	}
	n := fromText(a.String())
	if got := Root(n); !same(got, want) || !same(n, a) {
		t.Fatalf("Root(%s) = %s, want %s", a, got.Text(), want)
	}
}

// A root goes wrong most easily next to a square.
func TestRoot(t *testing.T) {
	for n := int64(-2); n < 3000; n++ {
		checkRoot(t, big.NewInt(n))
	}
	for _, a := range samples() {
		checkRoot(t, a)
		square := new(big.Int).Mul(a, a)
		for _, near := range []int64{-1, 0, 1} {
			checkRoot(t, new(big.Int).Add(square, big.NewInt(near)))
		}
		square.Add(square, new(big.Int).Add(a, a))
		checkRoot(t, square)
	}
}

func TestDivide(t *testing.T) {
	list := samples()
	for _, a := range list {
		for _, b := range list {
			checkDivide(t, a, b)
		}
	}
}

// Dividends just below and at a multiple of the divisor make the estimates of the quotient's limbs too great.
func TestDivideNearMultiples(t *testing.T) {
	list := samples()
	for i, b := range list {
		for _, q := range list[i%5:] {
			if len(q.String()) > 30 {
				break
			}
			a := new(big.Int).Mul(b, q)
			checkDivide(t, a, b)
			checkDivide(t, new(big.Int).Sub(a, big.NewInt(1)), b)
			checkDivide(t, new(big.Int).Add(a, big.NewInt(1)), b)
		}
	}
}

func TestFromText(t *testing.T) {
	for _, a := range samples() {
		if got, fits := FromText(a.String()); !same(got, a) || !fits {
			t.Errorf("FromText(%s) = %s, %v", a, got.Text(), fits)
		}
	}
	digits := "1203004000500006000007000000800000009000000001"
	for end := 1; end <= len(digits); end++ {
		for _, text := range []string{digits[:end], "-" + digits[:end]} {
			want, _ := new(big.Int).SetString(text, 10)
			if got, fits := FromText(text); !same(got, want) || !fits {
				t.Errorf("FromText(%q) = %s, %v", text, got.Text(), fits)
			}
		}
	}
}

func TestFromWrongText(t *testing.T) {
	texts := []string{"", "-", "--", "--1", "-0", "00", "01", "-01", "007", "+1", "+0", " 1", "1 ", "1-", "1-1", "1x", "x", "0x", "0x1", "1_000", "1.0", "1e3", "- 1", "-\x00", "12345678901234567890 ", "/", ":", "1/", "1:", "٣", "1\n", "\xff1"}
	for c := range 256 {
		if c < '0' || c > '9' {
			texts = append(texts, string([]byte{byte(c)}), string([]byte{'1', byte(c)}), string([]byte{'1', byte(c), '1'}))
		}
	}
	for _, text := range texts {
		if got, fits := FromText(text); !same(got, new(big.Int)) || fits {
			t.Errorf("FromText(%q) = %s, %v", text, got.Text(), fits)
		}
	}
}
