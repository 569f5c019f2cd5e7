package surd

import (
	"fmt"
	"math/rand"
	"testing"

	"surd/api"
)

func checkPeriod(t *testing.T, text string, wantB int, wantL int, want api.Errno) {
	t.Helper()
	if b, l, err := Period(text); b != wantB || l != wantL || err != want {
		t.Fatalf("P9: Period(%.120q) = %d, %d, %d, want %d, %d, %d", text, b, l, err, wantB, wantL, want)
	}
}

func TestP9Period(t *testing.T) {
	for _, c := range []struct {
		text string
		b, l int
	}{
		{"r2", 1, 1}, {"r7", 1, 4}, {"(1+r5)/2", 0, 1}, {"1+r2", 0, 1}, {"2+r7", 0, 4}, {"r3", 1, 2}, {"1+r3", 0, 2}, {"(1+r3)/2", 0, 2}, {"r8", 1, 2}, {"r18", 1, 2}, {"r75", 1, 4}, {"r999999", 1, 2},
		{"-r2", 3, 1}, {"-r7", 2, 4}, {"-(1+r5)/2", 2, 1}, {"(1-r5)/2", 2, 1}, {"r2-2", 1, 1}, {"1-r2", 3, 1}, {"1/r2", 2, 1}, {"r2/2", 2, 1}, {"1/(1+r2)", 1, 1}, {"999999999999999999+r2", 1, 1}, {"-999999999999999999+r2", 1, 1}, {"1/(999999999999999999+r2)", 2, 1},
		{"1/(9+1/(9+1/(9+1/(9+1/(9+1/(9+1/(9+1/(9+r999983))))))))", 9, 76},
	} {
		checkPeriod(t, c.text, c.b, c.l, api.OK)
	}
}

// fibonacci answers the number with 86 terms 1 and then those of the root, which is above 1.
func fibonacci(root string) string {
	return "(679891637638612258*" + root + "+420196140727489673)/(420196140727489673*" + root + "+259695496911122585)"
}

func TestP9AtMaxPeriod(t *testing.T) {
	for _, c := range []struct {
		text string
		b, l int
		want api.Errno
	}{
		{"r11974", 1, 198, api.OK}, {"r23017", 1, 199, api.OK}, {"r11341", 0, 0, api.ErrFar}, {"r37921", 0, 0, api.ErrFar},
		{"1+r23017", 1, 199, api.OK}, {"1/r23017", 0, 0, api.ErrFar}, {"-r23017", 0, 0, api.ErrFar}, {"1/r11974", 2, 198, api.OK}, {"-r11974", 0, 0, api.ErrFar},
		{"106+r11341", 0, 200, api.OK}, {"105+r11341", 0, 0, api.ErrFar}, {"1/(106+r11341)", 0, 0, api.ErrFar}, {"107+r11566", 0, 200, api.OK}, {"194+r37921", 0, 0, api.ErrFar}, {"93+r8779", 0, 0, api.ErrFar},
		{fibonacci("r2"), 87, 1, api.OK}, {fibonacci("r6121"), 87, 113, api.OK}, {fibonacci("r3019"), 0, 0, api.ErrFar}, {fibonacci("r3469"), 0, 0, api.ErrFar},
		{"r999983/999999999999999999", 0, 0, api.ErrFar}, {"r2/(999999999999999999*999999999999999999*999999999999999999*999999999999999999*99999)", 0, 0, api.ErrFar},
	} {
		checkPeriod(t, c.text, c.b, c.l, c.want)
	}
}

func TestP9Errors(t *testing.T) {
	for _, c := range []struct {
		text string
		want api.Errno
	}{
		{"3", api.ErrRational}, {"0", api.ErrRational}, {"-7/3", api.ErrRational}, {"r4", api.ErrRational}, {"r0", api.ErrRational}, {"r2-r2", api.ErrRational}, {"r2*r8", api.ErrRational}, {"(1+r2)*(1-r2)/7", api.ErrRational}, {"0*r23018", api.ErrRational},
		{"", api.ErrText}, {"x", api.ErrText}, {"r2+", api.ErrText}, {"1/0", api.ErrZero}, {"r2/(r2-r2)", api.ErrZero}, {"r2+r3", api.ErrRoots}, {repeat("1", 101), api.ErrLong}, {repeat("r2+", 33) + "r2", api.ErrLong},
	} {
		checkPeriod(t, c.text, 0, 0, c.want)
	}
}

func TestP9AgainstTheSecondWay(t *testing.T) {
	source := rand.New(rand.NewSource(14))
	near, far := 0, 0
	for near < 60 || far < 20 {
		text, tree := randomExpression(source)
		value, err, _ := reckon(tree)
		if err != api.OK || value.d == 1 {
			continue
		}
		if checkPeriodOf(t, text, value) {
			near++
		} else {
			far++
		}
	}
}

// checkPeriodOf tells whether the value has a period that is near enough.
func checkPeriodOf(t *testing.T, text string, value pair) bool {
	t.Helper()
	b, l, found := periodOf(value, api.MaxPeriod)
	want := api.OK
	if !found {
		want = api.ErrFar
	}
	checkPeriod(t, text, b, l, want)
	return found
}

func TestP9SmallForms(t *testing.T) {
	source := rand.New(rand.NewSource(15))
	for range 150 {
		text := fmt.Sprintf("(%d+%d*r%d)/%d", source.Intn(40), 1+source.Intn(5), []int{2, 3, 5, 7, 13, 31, 94, 421}[source.Intn(8)], 1+source.Intn(20))
		if source.Intn(2) == 0 {
			text = "-" + text
		}
		value, err := Value(text)
		if err != api.OK {
			t.Fatalf("P9: Value(%q) tells %d", text, err)
		}
		checkPeriodOf(t, text, valueOf(value))
	}
}

// By the terms alone: from b on they repeat themselves after l, no sooner, and not from b - 1 on.
func TestP9Terms(t *testing.T) {
	source := rand.New(rand.NewSource(16))
	count := 0
	for count < 300 {
		text := fmt.Sprintf("(%d-%d*r%d)/%d", source.Intn(40), 1+source.Intn(5), 2+source.Intn(120), 1+source.Intn(20))
		b, l, err := Period(text)
		if err != api.OK || b+2*l > api.MaxTerms {
			continue
		}
		count++
		terms, _, _ := Terms(text, api.MaxTerms)
		if !repeats(terms, b, l) {
			t.Errorf("P9: Period(%q) = %d, %d, but its terms are %v", text, b, l, terms)
		}
		if b > 0 && terms[b-1] == terms[b-1+l] {
			t.Errorf("P9: Period(%q) = %d, %d, but less stands ahead: %v", text, b, l, terms)
		}
		for shorter := 1; shorter < l; shorter++ {
			if repeats(terms, b, shorter) {
				t.Errorf("P9: Period(%q) = %d, %d, but a period has %d terms: %v", text, b, l, shorter, terms)
			}
		}
	}
}

func repeats(terms []string, b int, l int) bool {
	for i := b; i+l < len(terms); i++ {
		if terms[i] != terms[i+l] {
			return false
		}
	}
	return true
}

func TestP9GreatNumbers(t *testing.T) {
	for _, text := range greatTexts() {
		value, err := Value(text)
		if err != api.OK {
			t.Fatalf("P9: Value(%q) tells %d", text, err)
		}
		if value.D == 1 {
			checkPeriod(t, text, 0, 0, api.ErrRational)
			continue
		}
		checkPeriodOf(t, text, valueOf(value))
	}
}
