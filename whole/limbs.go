package whole

// A list of limbs is a number from 0 on in base 10^9, the least limb first and the last one not 0, so that each number has one list only. The functions here change no list that they are given.
const (
	base       = 1000000000 // the square of it, less 1, fits into an int64
	limbDigits = 9
)

// significant counts the limbs that are left when the noughts at the upper end are dropped.
func significant(limbs []int64) int {
	n := len(limbs)
	for n > 0 && limbs[n-1] == 0 {
		n--
	}
	return n
}

func limbAt(limbs []int64, i int) int64 {
	if i < 0 || i >= len(limbs) {
		return 0
	}
	return limbs[i]
}

// limbsOf wants digits alone.
func limbsOf(digits string) []int64 {
	limbs := []int64{}
	for end := len(digits); end > 0; end -= limbDigits {
		limb := int64(0)
		for i := end - limbDigits; i < end; i++ {
			// The upper limb may have fewer digits.
			if i >= 0 {
				limb = limb*10 + int64(digits[i]-'0')
			}
		}
		limbs = append(limbs, limb)
	}
	n := significant(limbs)
	return limbs[:n]
}

func copyLimbs(limbs []int64) []int64 {
	return append([]int64{}, limbs...)
}

func compareLimbs(a []int64, b []int64) int {
	if len(a) < len(b) {
		return -1
	}
	if len(a) > len(b) {
		return 1
	}
	for i := len(a) - 1; i >= 0; i-- {
		if a[i] < b[i] {
			return -1
		}
		if a[i] > b[i] {
			return 1
		}
	}
	return 0
}

func addLimbs(a []int64, b []int64) []int64 {
	sum := []int64{}
	carry := int64(0)
	for i := 0; i < len(a) || i < len(b) || carry > 0; i++ {
		if i < len(a) {
			carry += a[i]
		}
		if i < len(b) {
			carry += b[i]
		}
		sum = append(sum, carry%base)
		carry /= base
	}
	return sum
}

// subtractLimbs wants an a that is not below b.
func subtractLimbs(a []int64, b []int64) []int64 {
	rest := make([]int64, len(a))
	borrow := int64(0)
	for i := 0; i < len(a); i++ {
		limb := a[i] - borrow
		if i < len(b) {
			limb -= b[i]
		}
		borrow = 0
		if limb < 0 {
			limb += base
			borrow = 1
		}
		rest[i] = limb
	}
	n := significant(rest)
	return rest[:n]
}

func multiplyLimbs(a []int64, b []int64) []int64 {
	product := make([]int64, len(a)+len(b))
	for i := 0; i < len(a); i++ {
		carry := int64(0)
		for j := 0; j < len(b); j++ {
			carry += product[i+j] + a[i]*b[j]
			product[i+j] = carry % base
			carry /= base
		}
		product[i+len(b)] = carry
	}
	n := significant(product)
	return product[:n]
}

// divideLimbs answers the quotient and the remainder; with b 0 these are 0 and a, so that a is always quotient times b plus remainder.
func divideLimbs(a []int64, b []int64) ([]int64, []int64) {
	if len(b) == 0 {
		rest := copyLimbs(a)
		return []int64{}, rest
	}
	// With the divisor's upper limb at least half the base, an estimate from the upper limbs is at most 2 too great.
	scale := []int64{base / (b[len(b)-1] + 1)}
	dividend := multiplyLimbs(a, scale)
	divisor := multiplyLimbs(b, scale)
	start := len(dividend) - len(divisor) + 1
	if start < 0 {
		start = 0
	}
	quotient := make([]int64, start)
	rest := copyLimbs(dividend[start:])
	for i := start - 1; i >= 0; i-- {
		rest = putBelow(rest, dividend[i])
		digit := estimate(rest, divisor)
		part := multiplyLimbs(divisor, []int64{digit})
		for compareLimbs(part, rest) > 0 {
			digit--
			part = subtractLimbs(part, divisor)
		}
		quotient[i] = digit
		rest = subtractLimbs(rest, part)
	}
	n := significant(quotient)
	quotient = quotient[:n]
	taken := multiplyLimbs(quotient, b)
	remainder := subtractLimbs(a, taken)
	return quotient, remainder
}

// putBelow answers limbs times the base, plus limb.
func putBelow(limbs []int64, limb int64) []int64 {
	longer := []int64{limb}
	longer = append(longer, limbs...)
	n := significant(longer)
	return longer[:n]
}

// estimate answers how often the divisor goes into rest, or somewhat more; rest is below the divisor times the base.
func estimate(rest []int64, divisor []int64) int64 {
	last := len(divisor) - 1
	if last < 0 || divisor[last] <= 0 {
		return 0
	}
	upper := limbAt(rest, last+1)
	lower := limbAt(rest, last)
	digit := (upper*base + lower) / divisor[last]
	if digit >= base {
		return base - 1
	}
	return digit
}

// rootLimbs goes down to the root from above. A step from above the root never leads below its whole part, so that the first step that leads no further down starts there.
func rootLimbs(a []int64) []int64 {
	root := []int64{1}
	for i := 0; i < len(a); i += 2 {
		root = putBelow(root, 0)
	}
	for {
		quotient, _ := divideLimbs(a, root)
		sum := addLimbs(root, quotient)
		next, _ := divideLimbs(sum, []int64{2})
		if compareLimbs(next, root) >= 0 {
			return root
		}
		root = next
	}
}
