package surd

import (
	"math/big"
	"math/rand"
	"strconv"
	"testing"

	"surd/api"
)

func checkLine(t *testing.T, a string, b string, c string, wantX string, wantY string, want api.Errno) {
	t.Helper()
	if x, y, err := Line(a, b, c); x != wantX || y != wantY || err != want {
		t.Fatalf("P11: Line(%.60q, %.60q, %.60q) = %q, %q, %d, want %q, %q, %d", a, b, c, x, y, err, wantX, wantY, want)
	}
}

func TestP11Line(t *testing.T) {
	nines := repeat("9", 40)
	for _, c := range []struct {
		a, b, c, x, y string
	}{
		{"6", "10", "8", "3", "-1"}, {"-4", "0", "8", "-2", "0"}, {"0", "-3", "6", "0", "-2"},
		{"1", "1", "0", "0", "0"}, {"1", "1", "1", "0", "1"}, {"1", "1", "-1", "0", "-1"}, {"6", "10", "0", "0", "0"}, {"6", "10", "10", "0", "1"}, {"6", "10", "-20", "0", "-2"}, {"6", "10", "6", "1", "0"}, {"6", "10", "-6", "4", "-3"}, {"6", "10", "12", "2", "0"}, {"6", "10", "24", "4", "0"}, {"6", "10", "30", "0", "3"}, {"6", "10", "36", "1", "3"},
		{"3", "5", "1", "2", "-1"}, {"-3", "5", "1", "3", "2"}, {"3", "-5", "1", "2", "1"}, {"-3", "-5", "1", "3", "-2"}, {"3", "5", "-1", "3", "-2"}, {"-3", "5", "-1", "2", "1"}, {"3", "-5", "-1", "3", "2"}, {"-3", "-5", "-1", "2", "-1"},
		{"5", "3", "1", "2", "-3"}, {"7", "1", "5", "0", "5"}, {"7", "-1", "5", "0", "-5"}, {"7", "7", "14", "0", "2"}, {"7", "-7", "14", "0", "-2"}, {"12", "4", "8", "0", "2"}, {"4", "12", "8", "2", "0"}, {"1", "1000000000", "999999999", "999999999", "0"}, {"1", "1000000000", "-1", "999999999", "-1"},
		{"4", "0", "8", "2", "0"}, {"4", "0", "-8", "-2", "0"}, {"-4", "0", "-8", "2", "0"}, {"4", "0", "0", "0", "0"}, {"-4", "0", "0", "0", "0"}, {"1", "0", "7", "7", "0"}, {"-1", "0", nines, "-" + nines, "0"},
		{"0", "3", "6", "0", "2"}, {"0", "3", "-6", "0", "-2"}, {"0", "-3", "-6", "0", "2"}, {"0", "3", "0", "0", "0"}, {"0", "1", "7", "0", "7"}, {"0", "-1", nines, "0", "-" + nines},
		{nines, nines, nines, "0", "1"}, {nines, "1", "5", "0", "5"}, {"2", nines, "1", "5" + repeat("0", 39), "-1"}, {"-2", nines, "1", "4" + repeat("9", 39), "1"}, {"1", nines, "-1", repeat("9", 39) + "8", "-1"}, {nines, "2", nines, "1", "0"}, {nines, "-" + repeat("9", 39), "9", "1", "10"},
	} {
		checkLine(t, c.a, c.b, c.c, c.x, c.y, api.OK)
	}
}

func TestP11None(t *testing.T) {
	nines := repeat("9", 40)
	for _, c := range [][3]string{
		{"6", "10", "7"}, {"6", "10", "1"}, {"6", "10", "-1"}, {"-6", "10", "7"}, {"6", "-10", "-7"}, {"2", "4", "1"}, {"2", "4", nines}, {"3", "-3", "1"}, {"3", "3", "-2"},
		{"4", "0", "2"}, {"4", "0", "1"}, {"-4", "0", "7"}, {"4", "0", "-6"}, {"4", "0", "-1"}, {nines, "0", "1"}, {"0", "3", "1"}, {"0", "-3", "-1"}, {"0", "3", "4"}, {"0", nines, "-1"}, {nines, nines, "1"}, {nines, "-" + repeat("9", 20), "8"}, {"1" + repeat("0", 39), "2", nines},
	} {
		checkLine(t, c[0], c[1], c[2], "", "", api.ErrNone)
	}
}

// places lays a text at each place of Line in turn; whatever number it is, there is a solution.
func places(text string) [][3]string {
	return [][3]string{{text, "1", "1"}, {"1", text, "1"}, {"1", "1", text}, {text, "1", "0"}, {"-1", text, "0"}}
}

func TestP11WrongTexts(t *testing.T) {
	for _, text := range []string{"", "-", "--", "--1", "-0", "00", "01", "007", "-01", "+", "+1", "+0", " ", " 1", "1 ", "1-", "1-1", "1+1", "1x", "x", "0x", "0x1", "1_000", "1.0", "1e3", "- 1", "1\n", "\n1", "1\x00", "\x00", "1,000", "r4", "(1)", "٣", "１", "\xff", "1\xff", "−1", "/", ":", "1/", "1:", "1" + repeat("0", 38) + "x", repeat("0", 40), "-" + repeat("0", 39), repeat("-", 40)} {
		for _, c := range places(text) {
			checkLine(t, c[0], c[1], c[2], "", "", api.ErrArg)
		}
	}
}

func TestP11AllShortTexts(t *testing.T) {
	for a := range 256 {
		for _, c := range places(string([]byte{byte(a)})) {
			checkKind(t, c)
		}
		for b := range 256 {
			for _, c := range places(string([]byte{byte(a), byte(b)})) {
				checkKind(t, c)
			}
		}
	}
}

// checkKind wants an equation that has a solution if its texts are whole numbers' texts.
func checkKind(t *testing.T, c [3]string) {
	t.Helper()
	want := api.OK
	for _, text := range c {
		if !isWholeText(text) || len(text) > api.MaxNumber {
			want = api.ErrArg
		}
	}
	x, y, err := Line(c[0], c[1], c[2])
	if err != want || isWholeText(x) != (want == api.OK) || isWholeText(y) != (want == api.OK) || (want != api.OK && x+y != "") {
		t.Fatalf("P11: Line(%.60q, %.60q, %.60q) = %q, %q, %d, want %d", c[0], c[1], c[2], x, y, err, want)
	}
}

func TestP11AtMaxNumber(t *testing.T) {
	for _, text := range []string{repeat("9", 40), "-" + repeat("9", 39), "1" + repeat("0", 39), "-1" + repeat("0", 38)} {
		for _, c := range places(text) {
			checkKind(t, c)
		}
		checkLine(t, "1", "0", text, text, "0", api.OK)
		checkLine(t, "0", "1", text, "0", text, api.OK)
		checkLine(t, text, "0", text, "1", "0", api.OK)
		checkLine(t, "0", text, text, "0", "1", api.OK)
	}
	for _, text := range []string{repeat("9", 41), "-" + repeat("9", 40), "1" + repeat("0", 40), "-1" + repeat("0", 39), repeat("0", 41), "0" + repeat("1", 40), repeat("x", 41), repeat("1", 100), repeat("1", 101), repeat("1", 1000000)} {
		for _, c := range places(text) {
			checkLine(t, c[0], c[1], c[2], "", "", api.ErrArg)
		}
	}
}

// ErrArg is named ahead of ErrNone.
func TestP11ErrorsInTheirOrder(t *testing.T) {
	long := repeat("1", 41)
	for _, c := range [][3]string{
		{"0", "0", "0"}, {"0", "0", "1"}, {"0", "0", "-1"}, {"0", "0", repeat("9", 40)}, {"0", "0", "x"}, {"0", "0", long}, {"0", "-0", "1"}, {"00", "0", "1"}, {"0", "x", "0"},
		{"2", "4", "01"}, {"2", "4", "-"}, {"2", "4", long}, {"02", "4", "1"}, {"2", "04", "1"}, {"4", "-0", "1"}, {"-0", "4", "1"}, {long, "x", ""}, {"", "", ""},
	} {
		checkLine(t, c[0], c[1], c[2], "", "", api.ErrArg)
	}
}

// solveSmall tries x from 0 on; a solution with b not 0 has another one b steps away, so that the least x is below |b|.
func solveSmall(a int, b int, c int) (string, string, api.Errno) {
	switch {
	case a == 0 && b == 0:
		return "", "", api.ErrArg
	case b == 0 && c%a == 0:
		return strconv.Itoa(c / a), "0", api.OK
	}
	for x := range distance(b, 0) {
		if (c-a*x)%b == 0 {
			return strconv.Itoa(x), strconv.Itoa((c - a*x) / b), api.OK
		}
	}
	return "", "", api.ErrNone
}

func TestP11AllSmallNumbers(t *testing.T) {
	for a := -20; a <= 20; a++ {
		for b := -20; b <= 20; b++ {
			for c := -30; c <= 30; c++ {
				x, y, err := solveSmall(a, b, c)
				checkLine(t, strconv.Itoa(a), strconv.Itoa(b), strconv.Itoa(c), x, y, err)
			}
		}
	}
}

// solve divides by the greatest common divisor first, and then finds x from the inverse of a that math/big knows; b is not 0.
func solve(a *big.Int, b *big.Int, c *big.Int) (string, string, api.Errno) {
	divisor := new(big.Int).GCD(nil, nil, new(big.Int).Abs(a), new(big.Int).Abs(b))
	if new(big.Int).Rem(c, divisor).Sign() != 0 {
		return "", "", api.ErrNone
	}
	reducedA, reducedC := new(big.Int).Quo(a, divisor), new(big.Int).Quo(c, divisor)
	step := new(big.Int).Abs(new(big.Int).Quo(b, divisor))
	x := new(big.Int)
	if step.Cmp(big.NewInt(1)) > 0 {
		x.ModInverse(reducedA, step)
		x.Mul(x, reducedC).Mod(x, step)
	}
	y := new(big.Int).Sub(c, new(big.Int).Mul(a, x))
	return x.String(), y.Quo(y, b).String(), api.OK
}

// randomNumber answers one whose text has at most MaxNumber bytes.
func randomNumber(source *rand.Rand) *big.Int {
	most := new(big.Int).Exp(big.NewInt(10), big.NewInt(int64(source.Intn(api.MaxNumber))), nil)
	n := most.Rand(source, most)
	if source.Intn(2) == 0 {
		n.Neg(n)
	}
	return n
}

func TestP11AgainstTheSecondWay(t *testing.T) {
	source := rand.New(rand.NewSource(17))
	count := [9]int{}
	for range 20000 {
		a, b, c := randomNumber(source), randomNumber(source), randomNumber(source)
		factor := new(big.Int).Abs(randomNumber(source))
		// Every other time with a divisor that a and b, and now and then c, have in common.
		if product := new(big.Int).Mul(b, factor); source.Intn(2) == 0 && len(product.String()) <= api.MaxNumber {
			a.Mul(a, factor)
			b = product
			if source.Intn(3) > 0 {
				c.Mul(c, factor)
			}
		}
		if b.Sign() == 0 || len(a.String()) > api.MaxNumber || len(c.String()) > api.MaxNumber {
			continue
		}
		x, y, err := solve(a, b, c)
		checkLine(t, a.String(), b.String(), c.String(), x, y, err)
		count[err]++
	}
	if count[api.OK] < 5000 || count[api.ErrNone] < 1000 {
		t.Errorf("too few of a kind: %v", count)
	}
}

// The quotients on the way to the greatest common divisor are all 1 here, so that there are as many as can be.
func TestP11Fibonacci(t *testing.T) {
	a, b := big.NewInt(1), big.NewInt(1)
	for len(b.String()) < api.MaxNumber {
		for _, c := range []int64{1, -1, 0, 999999999999999999} {
			x, y, err := solve(a, b, big.NewInt(c))
			checkLine(t, a.String(), b.String(), strconv.FormatInt(c, 10), x, y, err)
			x, y, err = solve(b, a, big.NewInt(c))
			checkLine(t, b.String(), a.String(), strconv.FormatInt(c, 10), x, y, err)
		}
		a, b = b, a.Add(a, b)
	}
}
