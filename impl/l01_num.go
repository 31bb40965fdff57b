package impl

import "strconv"

const MaxInt = 1000000000000

func FormatInt(n int) string {
	return strconv.Itoa(n)
}

func ParseInt(s string) (int, bool) {
	if s == "" || hasLeadingZero(s) {
		return 0, false
	}
	n := 0
	for i := 0; i < len(s); i++ {
		if s[i] < '0' || s[i] > '9' {
			return 0, false
		}
		n = n*10 + int(s[i]-'0')
		// Asked after every digit, so that a long text cannot wrap around to a small number.
		if n > MaxInt {
			return 0, false
		}
	}
	return n, true
}

// hasLeadingZero is false for "0", which is how FormatInt writes zero.
func hasLeadingZero(s string) bool {
	return len(s) > 1 && s[0] == '0'
}

func Min(a int, b int) int {
	return smallest(a, b)
}

func Max(a int, b int) int {
	return greatest(a, b)
}

func smallest(first int, others ...int) int {
	for _, n := range others {
		if n < first {
			first = n
		}
	}
	return first
}

func greatest(first int, others ...int) int {
	for _, n := range others {
		if n > first {
			first = n
		}
	}
	return first
}

func CeilDiv(a int, b int) int {
	if !InRange(a, 0, MaxInt) || !InRange(b, 1, MaxInt) {
		return 0
	}
	return (a + b - 1) / b
}

func Mod(n int, m int) int {
	if !InRange(m, 1, MaxInt) {
		return 0
	}
	// Go's remainder has the sign of n.
	r := n % m
	if r < 0 {
		r += m
	}
	return r
}

func InRange(n int, a int, b int) bool {
	return a <= n && n <= b
}
