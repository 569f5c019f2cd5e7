package expansion

import (
	"surd/exact"
	"surd/whole"
)

// Period answers the least numbers of terms ahead of the first period, and in a period, of x's expansion; false, if they are more than most together. x is not rational.
func Period(x exact.Number, most int) (int, int, bool) {
	seen := []Rest{}
	rest := Of(x)
	// Terms repeat themselves for ever just if what is to be expanded is what it was before, and the first time that it is tells the least numbers.
	for len(seen) <= most && !rest.Ended() {
		ahead := place(seen, rest)
		if ahead < len(seen) {
			return ahead, len(seen) - ahead, true
		}
		seen = append(seen, rest)
		_, behind := rest.Next()
		rest = behind
	}
	return 0, 0, false
}

// place answers where a rest stands in a list; the length of the list, if it does not.
func place(list []Rest, rest Rest) int {
	for i := range list {
		if same(list[i], rest) {
			return i
		}
	}
	return len(list)
}

// same wants two rests of one number: their n is the same, and no square, so that they are the same number with the same p and q alone.
func same(a Rest, b Rest) bool {
	if whole.Compare(a.p, b.p) != 0 {
		return false
	}
	return whole.Compare(a.q, b.q) == 0
}
