package impl

import "strconv"

const MaxValue = 1000000000000

func FormatInt(n int) string {
	return strconv.Itoa(n)
}

func ParseInt(s string) (int, bool) {
	if s == "" || s[0] == '0' && len(s) > 1 {
		return 0, false
	}
	n := 0
	for _, c := range s {
		if !pushDigit(&n, c) {
			return 0, false
		}
	}
	return n, true
}

// pushDigit puts one more decimal digit behind the number n.
// It reports false for anything but a digit and as soon as n is beyond
// MaxValue, so that a long run of digits cannot wrap around into the range.
func pushDigit(n *int, c rune) bool {
	if c < '0' || c > '9' {
		return false
	}
	*n = *n*10 + int(c-'0')
	return *n <= MaxValue
}

func Min(a int, b int) int {
	return extreme(false, a, b)
}

func Max(a int, b int) int {
	return extreme(true, a, b)
}

// extreme compares with < and > alone: a sign or a difference would wrap
// around for the smallest int.
func extreme(greatest bool, first int, others ...int) int {
	best := first
	for _, n := range others {
		if greatest && n > best || !greatest && n < best {
			best = n
		}
	}
	return best
}

func CeilDiv(a int, b int) int {
	if !InRange(a, 0, MaxValue) || !InRange(b, 1, MaxValue) {
		return 0
	}
	return (a + b - 1) / b
}

func Mod(p int, q int) int {
	if !InRange(q, 1, MaxValue) {
		return 0
	}
	r := p % q
	if r < 0 {
		// The remainder of Go has the sign of p.
		r += q
	}
	return r
}

func InRange(n int, low int, high int) bool {
	return low <= n && n <= high
}
