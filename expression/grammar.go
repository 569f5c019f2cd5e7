package expression

import "surd/api"

// What may stand next.
const (
	wantFactor   = 0 // a factor begins
	wantRoot     = 1 // behind r: the first digit
	behindFactor = 2 // a factor is whole; if it ends in a digit, more digits may follow
)

// place is what the bytes ahead mean for the next one.
type place struct {
	kind  int
	room  int // how many more digits may stand here
	depth int // how many ( are open
}

// faultOf answers the place of the first byte that cannot stand where it stands, or the text's length, if it ends too early; -1, if the text is an expression.
func faultOf(text string) int {
	at := place{kind: wantFactor, room: api.MaxDigits, depth: 0}
	for i := 0; i < len(text); i++ {
		next, ok := step(at, text[i])
		if !ok {
			return i
		}
		at = next
	}
	if at.kind != behindFactor || at.depth > 0 {
		return len(text)
	}
	return -1
}

// step answers the place behind c, and whether c may stand at this place.
func step(at place, c byte) (place, bool) {
	if isDigit(c) {
		return place{kind: behindFactor, room: at.room - 1, depth: at.depth}, at.room > 0
	}
	switch at.kind {
	case wantFactor:
		return beginFactor(at, c)
	case behindFactor:
		return goOn(at, c)
	}
	return at, false
}

func beginFactor(at place, c byte) (place, bool) {
	switch c {
	case 'r':
		return place{kind: wantRoot, room: api.MaxRoot, depth: at.depth}, true
	case '-':
		return at, true
	case '(':
		return place{kind: wantFactor, room: api.MaxDigits, depth: at.depth + 1}, at.depth < api.MaxDepth
	}
	return at, false
}

func goOn(at place, c byte) (place, bool) {
	switch c {
	case '+', '-', '*', '/':
		return place{kind: wantFactor, room: api.MaxDigits, depth: at.depth}, true
	case ')':
		return place{kind: behindFactor, room: 0, depth: at.depth - 1}, at.depth > 0
	}
	return at, false
}

func isDigit(c byte) bool {
	return c >= '0' && c <= '9'
}
