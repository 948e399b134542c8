package impl

import (
	"cmp"
	"strconv"
)

const MaxValue = 1000000000000

func FormatInt(n int) string {
	return strconv.Itoa(n)
}

func ParseInt(s string) (int, bool) {
	if s == "" {
		return 0, false
	}
	n := 0
	for i := range len(s) {
		switch c := s[i]; c {
		case '0':
			if i == 0 && len(s) > 1 {
				return 0, false
			}
			fallthrough
		case '1', '2', '3', '4', '5', '6', '7', '8', '9':
			n = 10*n + int(c-'0')
		default:
			return 0, false
		}
		// Checked digit by digit, so that a long text cannot wrap around into the range.
		if n > MaxValue {
			return 0, false
		}
	}
	return n, true
}

func Min(a int, b int) int {
	return firstInOrder(cmp.Less[int], a, b)
}

func Max(a int, b int) int {
	return firstInOrder(isGreater, a, b)
}

func CeilDiv(a int, b int) int {
	if !InRange(a, 0, MaxValue) || !InRange(b, 1, MaxValue) {
		return 0
	}
	return (a + b - 1) / b
}

func Mod(p int, q int) int {
	if !InRange(q, 1, MaxValue) {
		return 0
	}
	r := p % q
	// Go's remainder has the sign of p.
	if r < 0 {
		r += q
	}
	return r
}

func InRange(n int, low int, high int) bool {
	return low <= n && n <= high
}

func firstInOrder(before func(a int, b int) bool, first int, others ...int) int {
	for _, n := range others {
		if before(n, first) {
			first = n
		}
	}
	return first
}

func isGreater(a int, b int) bool {
	return a > b
}
