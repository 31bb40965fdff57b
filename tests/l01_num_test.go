package tests

import (
	"math"
	"math/big"
	"strconv"
	"strings"
	"testing"

	"loop.example/g00505/impl"
)

const million = 1000000

// numbers holds small numbers of both signs, and the neighbours of the powers of two and ten, of MaxInt and of the ends of int.
func numbers() []int {
	l := []int{math.MinInt, math.MinInt + 1, math.MaxInt - 1, math.MaxInt}
	for n := -120; n <= 1100; n++ {
		l = append(l, n)
	}
	for p := 1; p <= math.MaxInt/10; p *= 10 {
		l = append(l, p-1, p, p+1, -p-1, -p, -p+1, 7*p, p+p/3)
	}
	for i := range 63 {
		p := 1 << i
		l = append(l, p-1, p, p+1, -p-1, -p, -p+1)
	}
	return append(l, impl.MaxInt-2, impl.MaxInt+2, -impl.MaxInt+2, -impl.MaxInt-2)
}

func expectParsed(t *testing.T, s string, want int) {
	t.Helper()
	if n, ok := impl.ParseInt(s); n != want || !ok {
		t.Errorf("ParseInt(%q) = %d, %v; want %d, true", s, n, ok, want)
	}
}

func expectRejected(t *testing.T, s string) {
	t.Helper()
	if n, ok := impl.ParseInt(s); n != 0 || ok {
		t.Errorf("ParseInt(%q) = %d, %v; want 0, false", s, n, ok)
	}
}

func TestMaxIntIsTenToTheTwelfth(t *testing.T) {
	if impl.MaxInt != million*million {
		t.Error(impl.MaxInt)
	}
}

func TestFormatIntOfWrittenNumbers(t *testing.T) {
	cases := []struct {
		n    int
		want string
	}{
		{0, "0"}, {1, "1"}, {9, "9"}, {10, "10"}, {17, "17"}, {100, "100"}, {1050, "1050"},
		{-1, "-1"}, {-3, "-3"}, {-10, "-10"}, {-907, "-907"},
		{impl.MaxInt, "1000000000000"}, {impl.MaxInt + 1, "1000000000001"}, {-impl.MaxInt, "-1000000000000"},
		{4294967296, "4294967296"}, {-4294967297, "-4294967297"},
		{math.MaxInt, "9223372036854775807"},
		{math.MinInt + 1, "-9223372036854775807"},
		{math.MinInt, "-9223372036854775808"},
	}
	for _, c := range cases {
		if s := impl.FormatInt(c.n); s != c.want {
			t.Errorf("FormatInt(%d) = %q; want %q", c.n, s, c.want)
		}
	}
}

func TestFormatIntOfManyNumbers(t *testing.T) {
	for _, n := range numbers() {
		if s, want := impl.FormatInt(n), big.NewInt(int64(n)).String(); s != want {
			t.Errorf("FormatInt(%d) = %q; want %q", n, s, want)
		}
	}
}

func TestParseIntOfWrittenNumbers(t *testing.T) {
	expectParsed(t, "0", 0)
	expectParsed(t, "1", 1)
	expectParsed(t, "8", 8)
	expectParsed(t, "9", 9)
	expectParsed(t, "10", 10)
	expectParsed(t, "17", 17)
	expectParsed(t, "100", 100)
	expectParsed(t, "9080706", 9080706)
	expectParsed(t, "4294967297", 4294967297)
	expectParsed(t, "123456789012", 123456789012)
	expectParsed(t, "999999999999", impl.MaxInt-1)
	expectParsed(t, "1000000000000", impl.MaxInt)
}

func TestParseIntUndoesFormatIntInItsRange(t *testing.T) {
	for _, n := range numbers() {
		s := impl.FormatInt(n)
		if n >= 0 && n <= impl.MaxInt {
			expectParsed(t, s, n)
		} else {
			expectRejected(t, s)
		}
	}
}

func TestParseIntRejectsLeadingZeros(t *testing.T) {
	for _, s := range []string{"00", "01", "000", "001", "007", "010", "0100", "01000000000000", "00000000000001"} {
		expectRejected(t, s)
	}
	for _, n := range numbers() {
		if n >= 0 && n <= impl.MaxInt {
			expectRejected(t, "0"+strconv.Itoa(n))
		}
	}
	expectRejected(t, strings.Repeat("0", 1000))
	expectRejected(t, strings.Repeat("0", 1000)+"1")
}

func TestParseIntRejectsOtherTexts(t *testing.T) {
	texts := []string{
		"", " ", "-", "+", "-0", "+0", "-1", "+1", "--1", "-01",
		"1 ", " 1", "1 2", "1\n", "\t1", "1\x00", "\x001", "1-", "1+", "1-1",
		"1_000", "1,000", "1.0", "1.", ".1", "1e3", "0x1", "0b1", "0o7", "1a", "a1", "ten", "NaN", "Inf", "?",
		"\u0661", "\uff11", "1\u0661", "\xff", "1\xb1", "\xb1",
	}
	for _, s := range texts {
		expectRejected(t, s)
	}
}

func TestParseIntRejectsEveryByteThatIsNoDigit(t *testing.T) {
	for c := range 256 {
		b := string([]byte{byte(c)})
		if c >= '0' && c <= '9' {
			expectParsed(t, b, c-'0')
			expectParsed(t, "1"+b, 10+c-'0')
			expectParsed(t, "1"+b+"2", 102+10*(c-'0'))
			continue
		}
		for _, s := range []string{b, b + "1", "1" + b, "1" + b + "2", "0" + b, b + "0"} {
			expectRejected(t, s)
		}
	}
}

func TestParseIntRejectsNumbersBeyondMaxInt(t *testing.T) {
	texts := []string{
		"1000000000001", "1000000000010", "1999999999999", "2000000000000", "9999999999999", "10000000000000",
		"9223372036854775807", "9223372036854775808", "9223372036854775809",
		"18446744073709551615", "18446744073709551616", "18446744073709551617", "36893488147419103233",
		"340282366920938463463374607431768211457",
		strings.Repeat("9", 20), strings.Repeat("9", 1000), "1" + strings.Repeat("0", 1000),
	}
	for _, s := range texts {
		expectRejected(t, s)
	}
}

// The values of these texts are small numbers modulo the powers of two, so that a sum that wraps around looks right at the end.
func TestParseIntDoesNotWrapAround(t *testing.T) {
	for i := 40; i <= 200; i++ {
		for k := range int64(12) {
			n := new(big.Int).Lsh(big.NewInt(1), uint(i))
			expectRejected(t, n.Add(n, big.NewInt(k)).String())
		}
	}
	for digit := range 10 {
		expectRejected(t, "1"+strings.Repeat("0", 63)+strconv.Itoa(digit))
		expectRejected(t, "1"+strings.Repeat("0", 500)+strconv.Itoa(digit))
	}
}

func TestMinAndMax(t *testing.T) {
	cases := []struct{ a, b, min, max int }{
		{2, -1, -1, 2}, {-1, 2, -1, 2}, {0, 0, 0, 0}, {5, 5, 5, 5}, {-5, -5, -5, -5}, {0, 1, 0, 1}, {1, 0, 0, 1}, {0, -1, -1, 0},
		{-3, -7, -7, -3}, {3, 7, 3, 7}, {impl.MaxInt, impl.MaxInt + 1, impl.MaxInt, impl.MaxInt + 1},
		{math.MinInt, math.MaxInt, math.MinInt, math.MaxInt},
		{math.MaxInt, math.MinInt, math.MinInt, math.MaxInt},
		{math.MinInt, 1, math.MinInt, 1}, {math.MaxInt, -1, -1, math.MaxInt},
		{math.MinInt, math.MinInt + 1, math.MinInt, math.MinInt + 1},
		{math.MaxInt - 1, math.MaxInt, math.MaxInt - 1, math.MaxInt},
	}
	for _, c := range cases {
		if n := impl.Min(c.a, c.b); n != c.min {
			t.Errorf("Min(%d, %d) = %d", c.a, c.b, n)
		}
		if n := impl.Max(c.a, c.b); n != c.max {
			t.Errorf("Max(%d, %d) = %d", c.a, c.b, n)
		}
	}
}

func TestCeilDivOfWrittenNumbers(t *testing.T) {
	cases := []struct{ a, b, want int }{
		{7, 3, 3}, {6, 3, 2}, {5, 3, 2}, {4, 3, 2}, {3, 3, 1}, {2, 3, 1}, {1, 3, 1}, {0, 3, 0}, {0, 1, 0}, {1, 1, 1}, {9, 1, 9},
		{impl.MaxInt, 1, impl.MaxInt}, {impl.MaxInt - 1, 1, impl.MaxInt - 1},
		{impl.MaxInt, 2, impl.MaxInt / 2}, {impl.MaxInt - 1, 2, impl.MaxInt / 2}, {impl.MaxInt, 3, 333333333334},
		{impl.MaxInt, impl.MaxInt, 1}, {impl.MaxInt - 1, impl.MaxInt, 1}, {1, impl.MaxInt, 1}, {0, impl.MaxInt, 0},
		{impl.MaxInt, impl.MaxInt - 1, 2}, {impl.MaxInt - 1, impl.MaxInt - 1, 1},
	}
	for _, c := range cases {
		if n := impl.CeilDiv(c.a, c.b); n != c.want {
			t.Errorf("CeilDiv(%d, %d) = %d; want %d", c.a, c.b, n, c.want)
		}
	}
}

func TestCeilDivOutsideItsRanges(t *testing.T) {
	for _, a := range []int{math.MinInt, -impl.MaxInt - 1, -impl.MaxInt, -7, -1, impl.MaxInt + 1, 2 * impl.MaxInt, math.MaxInt} {
		for _, b := range []int{1, 2, 3, impl.MaxInt} {
			if n := impl.CeilDiv(a, b); n != 0 {
				t.Errorf("CeilDiv(%d, %d) = %d; want 0", a, b, n)
			}
		}
	}
	for _, b := range []int{math.MinInt, -impl.MaxInt, -3, -1, 0, impl.MaxInt + 1, 2 * impl.MaxInt, math.MaxInt} {
		for _, a := range []int{math.MinInt, -1, 0, 1, 7, impl.MaxInt, impl.MaxInt + 1, math.MaxInt} {
			if n := impl.CeilDiv(a, b); n != 0 {
				t.Errorf("CeilDiv(%d, %d) = %d; want 0", a, b, n)
			}
		}
	}
}

func TestCeilDivIsTheLeastNumberOfParts(t *testing.T) {
	for _, a := range numbers() {
		for _, b := range numbers() {
			q := big.NewInt(int64(impl.CeilDiv(a, b)))
			if a < 0 || a > impl.MaxInt || b < 1 || b > impl.MaxInt {
				if q.Sign() != 0 {
					t.Fatalf("CeilDiv(%d, %d) = %v; want 0", a, b, q)
				}
				continue
			}
			size := new(big.Int).Mul(q, big.NewInt(int64(b)))
			rest := size.Sub(size, big.NewInt(int64(a)))
			if rest.Sign() < 0 || rest.Cmp(big.NewInt(int64(b))) >= 0 {
				t.Fatalf("CeilDiv(%d, %d) = %v", a, b, q)
			}
		}
	}
}

func TestModOfWrittenNumbers(t *testing.T) {
	cases := []struct{ n, m, want int }{
		{0, 7, 0}, {1, 7, 1}, {6, 7, 6}, {7, 7, 0}, {8, 7, 1}, {-1, 7, 6}, {-6, 7, 1}, {-7, 7, 0}, {-8, 7, 6}, {-70, 7, 0}, {-71, 7, 6},
		{0, 1, 0}, {5, 1, 0}, {-5, 1, 0},
		{impl.MaxInt, impl.MaxInt, 0}, {impl.MaxInt + 1, impl.MaxInt, 1}, {impl.MaxInt - 1, impl.MaxInt, impl.MaxInt - 1},
		{-impl.MaxInt, impl.MaxInt, 0}, {-1, impl.MaxInt, impl.MaxInt - 1}, {-impl.MaxInt - 1, impl.MaxInt, impl.MaxInt - 1},
		{-1, impl.MaxInt - 1, impl.MaxInt - 2},
		{math.MaxInt, 10, 7}, {math.MinInt, 10, 2}, {math.MaxInt, 2, 1}, {math.MinInt, 2, 0}, {math.MinInt, 1, 0},
		{math.MaxInt, impl.MaxInt, 36854775807}, {math.MinInt, impl.MaxInt, 963145224192},
	}
	for _, c := range cases {
		if n := impl.Mod(c.n, c.m); n != c.want {
			t.Errorf("Mod(%d, %d) = %d; want %d", c.n, c.m, n, c.want)
		}
	}
}

func TestModOutsideItsRange(t *testing.T) {
	for _, m := range []int{math.MinInt, -impl.MaxInt, -7, -1, 0, impl.MaxInt + 1, 2 * impl.MaxInt, math.MaxInt} {
		for _, n := range []int{math.MinInt, -8, -1, 0, 1, 8, impl.MaxInt, impl.MaxInt + 3, math.MaxInt} {
			if r := impl.Mod(n, m); r != 0 {
				t.Errorf("Mod(%d, %d) = %d; want 0", n, m, r)
			}
		}
	}
}

func TestModIsTheNonNegativeRemainder(t *testing.T) {
	for _, n := range numbers() {
		for _, m := range numbers() {
			want := 0
			if m >= 1 && m <= impl.MaxInt {
				want = int(new(big.Int).Mod(big.NewInt(int64(n)), big.NewInt(int64(m))).Int64())
			}
			if r := impl.Mod(n, m); r != want {
				t.Fatalf("Mod(%d, %d) = %d; want %d", n, m, r, want)
			}
		}
	}
}

func TestInRange(t *testing.T) {
	cases := []struct {
		n, a, b int
		want    bool
	}{
		{1, 2, 4, false}, {2, 2, 4, true}, {3, 2, 4, true}, {4, 2, 4, true}, {5, 2, 4, false},
		{3, 3, 3, true}, {2, 3, 3, false}, {4, 3, 3, false}, {0, 0, 0, true},
		{-3, -2, 2, false}, {-2, -2, 2, true}, {0, -2, 2, true}, {2, -2, 2, true}, {3, -2, 2, false},
		{1, 4, 2, false}, {2, 4, 2, false}, {3, 4, 2, false}, {4, 4, 2, false}, {5, 4, 2, false},
		{math.MaxInt, math.MinInt, math.MaxInt, true}, {math.MinInt, math.MinInt, math.MaxInt, true}, {0, math.MinInt, math.MaxInt, true},
		{0, math.MaxInt, math.MinInt, false}, {math.MaxInt, math.MaxInt, math.MinInt, false}, {math.MinInt, math.MaxInt, math.MinInt, false},
		{math.MinInt, 1, math.MaxInt, false}, {math.MaxInt, math.MinInt, -1, false}, {math.MaxInt, -1, 0, false}, {math.MinInt, 0, 1, false},
		{impl.MaxInt + 1, 0, impl.MaxInt, false}, {impl.MaxInt, 0, impl.MaxInt, true}, {impl.MaxInt + 1, 0, impl.MaxInt + 1, true},
	}
	for _, c := range cases {
		if got := impl.InRange(c.n, c.a, c.b); got != c.want {
			t.Errorf("InRange(%d, %d, %d) = %v", c.n, c.a, c.b, got)
		}
	}
}
