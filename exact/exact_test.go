package exact

import (
	"math"
	"testing"

	"surd/api"
	"surd/whole"
)

// number answers (p + q√d)/r, reckoned from its parts.
func number(t *testing.T, p int64, q int64, r int64, d int) Number {
	t.Helper()
	root, err := Multiply(FromInt(q), Root(d))
	if err != api.OK {
		t.Fatal(err)
	}
	above, err := Add(FromInt(p), root)
	if err != api.OK {
		t.Fatal(err)
	}
	all, err := Divide(above, FromInt(r))
	if err != api.OK {
		t.Fatal(err)
	}
	return all
}

func TestForm(t *testing.T) {
	for _, c := range []struct {
		p, q, r int64
		d       int
		want    api.Value
	}{
		{0, 0, 5, 7, api.Value{P: "0", Q: "0", R: "1", D: 1}},
		{2, 4, 6, 7, api.Value{P: "1", Q: "2", R: "3", D: 7}},
		{2, 4, -6, 7, api.Value{P: "-1", Q: "-2", R: "3", D: 7}},
		{2, 3, 6, 7, api.Value{P: "2", Q: "3", R: "6", D: 7}},
		{0, 4, 6, 7, api.Value{P: "0", Q: "2", R: "3", D: 7}},
		{6, 0, 4, 7, api.Value{P: "3", Q: "0", R: "2", D: 1}},
		{1, 1, 2, 9, api.Value{P: "2", Q: "0", R: "1", D: 1}},
		{1, 1, 2, 12, api.Value{P: "1", Q: "2", R: "2", D: 3}},
		{math.MinInt64, 1, math.MinInt64, 2, api.Value{P: "9223372036854775808", Q: "-1", R: "9223372036854775808", D: 2}},
	} {
		if got := number(t, c.p, c.q, c.r, c.d).Form(); got != c.want {
			t.Errorf("(%d + %d√%d)/%d is %+v, want %+v", c.p, c.q, c.d, c.r, got, c.want)
		}
	}
}

func TestQuotient(t *testing.T) {
	for p := int64(-30); p <= 30; p++ {
		for q := int64(-30); q <= 30; q++ {
			got := Quotient(whole.FromInt(p), whole.FromInt(q))
			if q == 0 {
				continue
			}
			if want := number(t, p, 0, q, 1); got.Form() != want.Form() {
				t.Errorf("%d/%d is %+v, want %+v", p, q, got.Form(), want.Form())
			}
		}
	}
}

func TestRational(t *testing.T) {
	for _, c := range []struct {
		p, q, r int64
		d       int
		want    bool
	}{
		{0, 0, 1, 2, true}, {5, 0, 3, 7, true}, {1, 1, 2, 9, true}, {1, 1, 2, 0, true}, {0, 1, 1, 2, false}, {5, -1, 3, 7, false}, {1, 1, 2, 999999, false},
	} {
		if got := number(t, c.p, c.q, c.r, c.d).Rational(); got != c.want {
			t.Errorf("(%d + %d√%d)/%d is rational: %v", c.p, c.q, c.d, c.r, got)
		}
	}
}

func TestRoot(t *testing.T) {
	for n := -3; n <= 3000; n++ {
		form := Root(n).Form()
		if n <= 0 {
			if form != FromInt(0).Form() {
				t.Errorf("Root(%d) is %+v", n, form)
			}
			continue
		}
		if form.D < 1 || (form.Q == "0") != (form.D == 1) || form.R != "1" {
			t.Errorf("Root(%d) is %+v", n, form)
		}
		for i := 2; i*i <= form.D; i++ {
			if form.D%(i*i) == 0 {
				t.Errorf("Root(%d) is %+v: a square is left", n, form)
			}
		}
		square, err := Multiply(Root(n), Root(n))
		if err != api.OK || square.Form() != FromInt(int64(n)).Form() {
			t.Errorf("the square of Root(%d) is %+v, %d", n, square.Form(), err)
		}
	}
}

func TestErrors(t *testing.T) {
	two := number(t, 1, 1, 1, 2)
	three := number(t, 1, 1, 1, 3)
	for name, operation := range map[string]func(Number, Number) (Number, api.Errno){"Add": Add, "Subtract": Subtract, "Multiply": Multiply, "Divide": Divide} {
		if _, err := operation(two, three); err != api.ErrRoots {
			t.Errorf("%s of two roots: %d", name, err)
		}
		for _, a := range []Number{two, three} {
			if _, err := operation(a, FromInt(5)); err != api.OK {
				t.Errorf("%s with a rational number behind: %d", name, err)
			}
			if _, err := operation(FromInt(5), a); err != api.OK {
				t.Errorf("%s with a rational number ahead: %d", name, err)
			}
		}
	}
	if _, err := Divide(two, FromInt(0)); err != api.ErrZero {
		t.Errorf("Divide by 0: %d", err)
	}
}

// Each operation is undone by its opposite.
func TestThereAndBack(t *testing.T) {
	list := []Number{}
	for p := int64(-3); p <= 3; p++ {
		for q := int64(-3); q <= 3; q++ {
			list = append(list, number(t, p, q, 1, 6), number(t, p, q, 4, 6), number(t, p, q, -6, 6))
		}
	}
	for _, a := range list {
		for _, b := range list {
			sum, _ := Add(a, b)
			back, err := Subtract(sum, b)
			if err != api.OK || back.Form() != a.Form() {
				t.Fatalf("%+v + %+v - the latter is %+v, %d", a.Form(), b.Form(), back.Form(), err)
			}
			if b.isZero() {
				continue
			}
			quotient, _ := Divide(a, b)
			back, err = Multiply(quotient, b)
			if err != api.OK || back.Form() != a.Form() {
				t.Fatalf("%+v / %+v * the latter is %+v, %d", a.Form(), b.Form(), back.Form(), err)
			}
		}
	}
}
