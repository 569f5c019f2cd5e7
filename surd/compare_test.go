package surd

import (
	"math/rand"
	"testing"

	"surd/api"
)

func TestP5Compare(t *testing.T) {
	for _, c := range []struct {
		a, b string
		want int
	}{
		{"r2", "7/5", 1}, {"r2+1", "r6", -1}, {"r8", "2*r2", 0}, {"r2*r2", "2", 0},
		{"0", "0", 0}, {"-0", "0", 0}, {"1", "0", 1}, {"-1", "0", -1}, {"1/3", "2/6", 0}, {"1/3", "1/4", 1}, {"-1/3", "-1/4", -1}, {"-2", "-3", 1}, {"2", "-3", 1},
		{"r2", "r2", 0}, {"-r2", "r2", -1}, {"1+r2", "2+r2", -1}, {"1+2*r2", "2+r2", 1}, {"10-7*r2", "1/9", -1}, {"10-7*r2", "1/10", 1}, {"1/(1+r2)", "r2-1", 0},
		{"r3", "r2", 1}, {"-r3", "-r2", -1}, {"r3", "-r2", 1}, {"-r3", "r2", -1}, {"2*r3", "3*r2", -1}, {"5*r3", "6*r2", 1}, {"-2*r3", "-3*r2", 1},
		{"1+r2", "r6", -1}, {"1-r2", "r6", -1}, {"-1+r2", "-r6", 1}, {"-1-r2", "-r6", 1}, {"1+r2", "-r6", 1}, {"5-r2", "r13", -1}, {"5-r2", "r12", 1},
		{"4-r3", "1+r2", -1}, {"r2-4", "-r6", -1}, {"r2-4", "-r7", 1}, {"r2-4", "-r5", -1}, {"10-r2", "5+r13", -1}, {"10-r2", "5+r12", 1},
		{"r6-r6", "r7-r7", 0}, {"0*r2", "r0", 0}, {"r2/r2", "r3/r3", 0}, {"r4", "r3*r3-1", 0}, {"r12/6", "1/r3", 0}, {"r75", "5*r3", 0}, {"r999999", "3*r111111", 0}, {"-(1-r2)", "r2-1", 0},
		{"r999999", "r999998", 1}, {"999999999999999999*r999982", "999999999999999999*r999983", -1}, {"r999983", "r999982+1/1999", -1}, {"r999983", "r999982+1/2000", 1},
		{"r2", "886731088897/627013566048", -1}, {"r2", "367296043199/259717522849", 1}, {"1/999999999999999999", "0", 1}, {"-1/999999999999999999", "0", -1},
		{"r2-r2+1/999999999999999999", "1/999999999999999998", -1}, {"999999999999999999+r2", "999999999999999998+r6", -1}, {"999999999999999999+r2", "999999999999999998+r5", 1},
		{"r2*99999999999999999-141421356237309503", "r3/10", 1}, {"r2*99999999999999999-141421356237309503", "r3", -1},
	} {
		if got, err := Compare(c.a, c.b); got != c.want || err != api.OK {
			t.Errorf("P5: Compare(%q, %q) = %d, %d, want %d", c.a, c.b, got, err, c.want)
		}
		if got, err := Compare(c.b, c.a); got != -c.want || err != api.OK {
			t.Errorf("P5: Compare(%q, %q) = %d, %d, want %d", c.b, c.a, got, err, -c.want)
		}
	}
}

func TestP5Errors(t *testing.T) {
	long := repeat("1", 101)
	for _, c := range []struct {
		a, b string
		want api.Errno
	}{
		{"", "1", api.ErrText}, {"1", "", api.ErrText}, {"1 ", "1", api.ErrText}, {"1/0", "1", api.ErrZero}, {"1", "1/0", api.ErrZero}, {"r2+r3", "1", api.ErrRoots}, {"1", "r2+r3", api.ErrRoots}, {long, "1", api.ErrLong}, {"1", long, api.ErrLong},
		{"x", long, api.ErrText}, {long, "x", api.ErrLong}, {"x", "1/0", api.ErrText}, {"1/0", "x", api.ErrZero}, {"1/0", "r2+r3", api.ErrZero}, {"r2+r3", "1/0", api.ErrRoots}, {"r2+r3", long, api.ErrRoots}, {"1/0", long, api.ErrZero}, {"r2+r3", "(", api.ErrRoots},
	} {
		if got, err := Compare(c.a, c.b); got != 0 || err != c.want {
			t.Errorf("P5: Compare(%.30q, %.30q) = %d, %d, want 0, %d", c.a, c.b, got, err, c.want)
		}
	}
}

func checkCompare(t *testing.T, a string, b string, want int) {
	t.Helper()
	if got, err := Compare(a, b); got != want || err != api.OK {
		t.Fatalf("P5: Compare(%q, %q) = %d, %d, want %d", a, b, got, err, want)
	}
}

func TestP5AgainstTheSecondWay(t *testing.T) {
	source := rand.New(rand.NewSource(6))
	texts := []string{}
	values := []pair{}
	for len(texts) < 250 {
		text, tree := randomExpression(source)
		value, err, _ := reckon(tree)
		if err == api.OK {
			texts = append(texts, text)
			values = append(values, value)
		}
	}
	count := checkAllPairs(t, texts, values)
	if count[0] < 1000 || count[1] < 1000 || count[2] < 1000 {
		t.Errorf("too few of a kind: %v", count)
	}
}

// checkAllPairs counts how often a value is less than another, the same, greater.
func checkAllPairs(t *testing.T, texts []string, values []pair) [3]int {
	t.Helper()
	places := []place{}
	for _, value := range values {
		places = append(places, value.place())
	}
	count := [3]int{}
	for i, a := range texts {
		for j, b := range texts {
			want := comparePlaces(places[i], places[j])
			checkCompare(t, a, b, want)
			count[want+1]++
		}
	}
	return count
}

// formText writes a form as an expression, with what stands behind added to it above; "", if it has no room.
func formText(value api.Value, behind string) string {
	if value.P[0] == '-' {
		value.P = "0-" + value.P[1:]
	}
	text := "(" + value.P + "+" + value.Q + "*r" + rootText(value.D) + behind + ")/" + value.R
	if err, _ := Check(text); err != api.OK {
		return ""
	}
	return text
}

func rootText(d int) string {
	digits := ""
	for ; d > 0; d /= 10 {
		digits = string(rune('0'+d%10)) + digits
	}
	return digits
}

// A value and its form are the same; a little more above makes it greater.
func TestP5TextsAndForms(t *testing.T) {
	source := rand.New(rand.NewSource(7))
	count := 0
	for range 20000 {
		text, _ := randomExpression(source)
		value, err := Value(text)
		if err != api.OK {
			continue
		}
		same := formText(value, "")
		greater := formText(value, "+1/999999999999999999")
		if same == "" || greater == "" {
			continue
		}
		checkCompare(t, text, same, 0)
		checkCompare(t, same, text, 0)
		checkCompare(t, text, greater, -1)
		checkCompare(t, greater, text, 1)
		count++
	}
	if count < 1000 {
		t.Errorf("only %d texts", count)
	}
}

// Values that lie next to each other though their roots differ: products of small numbers, of which the forms are large.
func TestP5NearValues(t *testing.T) {
	texts := []string{"0", "3", "0-3"}
	for _, small := range []string{"(r2-1)", "(2-r3)", "(r5-2)", "(5-2*r6)", "(8-3*r7)", "(99-70*r2)", "1/7"} {
		power := small
		for len(power) <= 88 {
			texts = append(texts, power, "3-"+power, "0-3+"+power)
			power += "*" + small + "*" + small
		}
	}
	kept := []string{}
	values := []pair{}
	for _, text := range texts {
		if value, err := Value(text); err == api.OK {
			kept = append(kept, text)
			values = append(values, valueOf(value))
		}
	}
	if len(kept) < 60 {
		t.Errorf("only %d texts", len(kept))
	}
	checkAllPairs(t, kept, values)
}
