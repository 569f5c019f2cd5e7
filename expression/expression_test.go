package expression

import (
	"strings"
	"testing"

	"surd/api"
)

// The grammar as the document writes it, rule by rule: slow, and with no order of reading in it.

func isNumber(s string, most int) bool {
	return len(s) >= 1 && len(s) <= most && strings.Trim(s, "0123456789") == ""
}

func isFactor(s string) bool {
	if isNumber(s, api.MaxDigits) {
		return true
	}
	if strings.HasPrefix(s, "r") && isNumber(s[1:], api.MaxRoot) {
		return true
	}
	if strings.HasPrefix(s, "-") && isFactor(s[1:]) {
		return true
	}
	return len(s) > 2 && s[0] == '(' && s[len(s)-1] == ')' && isSum(s[1:len(s)-1])
}

func isProduct(s string) bool {
	for i := range len(s) {
		if (s[i] == '*' || s[i] == '/') && isFactor(s[i+1:]) && isProduct(s[:i]) {
			return true
		}
	}
	return isFactor(s)
}

func isSum(s string) bool {
	for i := range len(s) {
		if (s[i] == '+' || s[i] == '-') && isProduct(s[i+1:]) && isSum(s[:i]) {
			return true
		}
	}
	return isProduct(s)
}

func depthOf(s string) int {
	open, most := 0, 0
	for i := range len(s) {
		if s[i] == '(' {
			open++
		}
		if s[i] == ')' {
			open--
		}
		most = max(most, open)
	}
	return most
}

func isExpression(s string) bool {
	return depthOf(s) <= api.MaxDepth && isSum(s)
}

// begins tells whether s begins an expression: whatever is open can be closed by a number and brackets.
func begins(s string) bool {
	for brackets := ""; len(brackets) <= strings.Count(s, "("); brackets += ")" {
		if isExpression(s+brackets) || isExpression(s+"1"+brackets) {
			return true
		}
	}
	return false
}

// checkBehind tests every byte behind the beginning s, and goes on with those that may stand there.
func checkBehind(t *testing.T, s string, more int, alphabet string) {
	for c := range 256 {
		longer := s + string([]byte{byte(c)})
		if !begins(longer) {
			for _, rest := range []string{"", "1", ")", "x"} {
				if got := faultOf(longer + rest); got != len(s) {
					t.Errorf("faultOf(%q) = %d, want %d", longer+rest, got, len(s))
				}
			}
			continue
		}
		want := len(longer)
		if isExpression(longer) {
			want = -1
		}
		if got := faultOf(longer); got != want {
			t.Errorf("faultOf(%q) = %d, want %d", longer, got, want)
		}
		if more > 0 && strings.IndexByte(alphabet, byte(c)) >= 0 {
			checkBehind(t, longer, more-1, alphabet)
		}
	}
}

func TestP3EveryShortText(t *testing.T) {
	checkBehind(t, "", 3, "05r-+*/()")
}

func TestP3EveryShortTextBehindTheLimits(t *testing.T) {
	for _, s := range []string{
		strings.Repeat("(", 7),
		strings.Repeat("(-", 6),
		strings.Repeat("(", 8) + "1" + strings.Repeat(")", 7),
		"r12345", "-r00000", "12345678901234567", "2*(00000000000000001",
		strings.Repeat("-", 97), strings.Repeat("1+", 20),
	} {
		checkBehind(t, s, 2, "1r-+()")
	}
}

func TestReckonPlaces(t *testing.T) {
	for _, c := range []struct {
		text string
		err  api.Errno
		at   int
	}{
		{"1", api.OK, 0}, {"", api.ErrText, 0}, {"1/0*", api.ErrText, 4},
		{"(((1/0)/0)/0)", api.ErrZero, 4}, {"-(1/0)", api.ErrZero, 3}, {"-(r2+1)*-r3", api.ErrRoots, 7},
		{"1/(2/(3/(4/0)))", api.ErrZero, 10}, {strings.Repeat("1", 101), api.ErrLong, 0},
	} {
		value, err, at := Reckon(c.text)
		if err != c.err || at != c.at {
			t.Errorf("Reckon(%q): %d, %d, want %d, %d", c.text, err, at, c.err, c.at)
		}
		if err != api.OK && value.Form() != (api.Value{P: "0", Q: "0", R: "0", D: 0}) {
			t.Errorf("Reckon(%q) answers a value with its error: %+v", c.text, value.Form())
		}
	}
}
