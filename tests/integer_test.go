package tests

import (
	"math"
	"strconv"
	"strings"
	"testing"

	"loop.example/g03007/impl"
)

func TestMaxValue(t *testing.T) {
	if impl.MaxValue != 1000000000000 {
		t.Errorf("MaxValue = %d", impl.MaxValue)
	}
}

func TestFormatInt(t *testing.T) {
	for n, want := range map[int]string{
		0:                  "0",
		7:                  "7",
		10:                 "10",
		120:                "120",
		-1:                 "-1",
		-3:                 "-3",
		-120:               "-120",
		impl.MaxValue:      "1000000000000",
		impl.MaxValue + 1:  "1000000000001",
		-impl.MaxValue - 1: "-1000000000001",
		math.MaxInt:        "9223372036854775807",
		math.MinInt:        "-9223372036854775808",
		math.MinInt + 1:    "-9223372036854775807",
	} {
		if got := impl.FormatInt(n); got != want {
			t.Errorf("FormatInt(%d) = %q, want %q", n, got, want)
		}
	}
}

func TestParseIntAccepts(t *testing.T) {
	for s, want := range map[string]int{
		"0":             0,
		"1":             1,
		"9":             9,
		"10":            10,
		"17":            17,
		"100":           100,
		"1002003":       1002003,
		"9876543210":    9876543210,
		"999999999999":  impl.MaxValue - 1,
		"1000000000000": impl.MaxValue,
	} {
		n, ok := impl.ParseInt(s)
		if !ok || n != want {
			t.Errorf("ParseInt(%q) = %d, %v, want %d, true", s, n, ok, want)
		}
	}
}

func checkRejected(t *testing.T, s string) {
	t.Helper()
	n, ok := impl.ParseInt(s)
	if ok || n != 0 {
		t.Errorf("ParseInt(%q) = %d, %v, want 0, false", s, n, ok)
	}
}

func TestParseIntRejectsOtherForms(t *testing.T) {
	for _, s := range []string{
		"",
		"-", "+", "-0", "+0", "-1", "+1", "-17", "--1", "1-", "1+",
		"00", "000", "01", "017", "0017", "00000000000017", "01000000000000",
		" ", " 1", "1 ", "1 2", "\t1", "1\n", "1\r", "1\x00", "\x00",
		"x", "1x", "x1", "12x34", "0x1", "0x", "0b1", "0o7", "1_000", "1,000", "1.0", "1.", ".5", "1e3", "1E3",
		"/", ":", "1/", "1:", "a", "A", "ff", "NaN", "inf", "true",
		"\u0661", "1\u0662", "\uff11", "\u00b2", "\xff", "1\xff", "\xb1",
	} {
		checkRejected(t, s)
	}
}

func TestParseIntRejectsNumbersOutOfRange(t *testing.T) {
	for _, s := range []string{
		"1000000000001",
		"1000000000010",
		"2000000000000",
		"9999999999999",
		"10000000000000",
		"9223372036854775807",
		"9223372036854775808",
		"18446744073709551615",
		"18446744073709551616", // 0 if it wrapped around
		"18446744073709551633", // 17 if it wrapped around
		"340282366920938463463374607431768211456",
		"1" + strings.Repeat("0", 1000),
		strings.Repeat("9", 1000),
		strings.Repeat("0", 1000),
	} {
		checkRejected(t, s)
	}
}

func TestParseIntInvertsFormatInt(t *testing.T) {
	check := func(n int) {
		got, ok := impl.ParseInt(impl.FormatInt(n))
		if n < 0 || n > impl.MaxValue {
			if ok || got != 0 {
				t.Errorf("ParseInt(FormatInt(%d)) = %d, %v, want 0, false", n, got, ok)
			}
		} else if !ok || got != n {
			t.Errorf("ParseInt(FormatInt(%d)) = %d, %v", n, got, ok)
		}
	}
	for n := -1000; n <= 20000; n++ {
		check(n)
	}
	for power := 1; power <= 10*impl.MaxValue; power *= 10 {
		for d := -2; d <= 2; d++ {
			check(power + d)
			check(-power + d)
			check(7*power + d)
		}
	}
	for d := 0; d <= 1000; d++ {
		check(impl.MaxValue - d)
		check(impl.MaxValue + 1 + d)
		check(math.MaxInt - d)
		check(math.MinInt + d)
	}
}

// Every short text over a few telling characters is parsed just if it is the decimal form of a number.
func TestParseIntOfAllShortTexts(t *testing.T) {
	texts := []string{""}
	for range 5 {
		var longer []string
		for _, s := range texts {
			n, err := strconv.Atoi(s)
			valid := err == nil && n >= 0 && strconv.Itoa(n) == s
			if !valid {
				n = 0
			}
			if got, ok := impl.ParseInt(s); got != n || ok != valid {
				t.Errorf("ParseInt(%q) = %d, %v, want %d, %v", s, got, ok, n, valid)
			}
			for _, c := range "0159-+ /:x" {
				longer = append(longer, s+string(c))
			}
		}
		texts = longer
	}
}

// Each byte that is not a digit spoils a number at every place.
func TestParseIntOfEveryByte(t *testing.T) {
	for b := range 256 {
		c := byte(b)
		digit := c >= '0' && c <= '9'
		for _, s := range []string{string([]byte{c}), string([]byte{'1', c}), string([]byte{'1', c, '2'})} {
			if _, ok := impl.ParseInt(s); ok != digit {
				t.Errorf("ParseInt(%q) = %v, want %v", s, ok, digit)
			}
		}
		if _, ok := impl.ParseInt(string([]byte{c, '1'})); ok != (digit && c != '0') {
			t.Errorf("ParseInt of byte %d before 1 = %v", b, ok)
		}
	}
}

func TestMinAndMax(t *testing.T) {
	for _, c := range []struct{ a, b, least, greatest int }{
		{0, 0, 0, 0},
		{1, 2, 1, 2},
		{2, 1, 1, 2},
		{2, -1, -1, 2},
		{-1, 2, -1, 2},
		{-5, -3, -5, -3},
		{-3, -5, -5, -3},
		{4, 4, 4, 4},
		{-4, -4, -4, -4},
		{0, -1, -1, 0},
		{math.MinInt, math.MaxInt, math.MinInt, math.MaxInt},
		{math.MaxInt, math.MinInt, math.MinInt, math.MaxInt},
		{math.MinInt, 1, math.MinInt, 1},
		{math.MaxInt, -2, -2, math.MaxInt},
	} {
		if got := impl.Min(c.a, c.b); got != c.least {
			t.Errorf("Min(%d, %d) = %d, want %d", c.a, c.b, got, c.least)
		}
		if got := impl.Max(c.a, c.b); got != c.greatest {
			t.Errorf("Max(%d, %d) = %d, want %d", c.a, c.b, got, c.greatest)
		}
	}
}

func TestCeilDiv(t *testing.T) {
	for _, c := range []struct{ a, b, want int }{
		{7, 3, 3},
		{6, 3, 2},
		{5, 3, 2},
		{1, 1, 1},
		{0, 1, 0},
		{0, 3, 0},
		{1, 3, 1},
		{1, 2, 1},
		{0, impl.MaxValue, 0},
		{1, impl.MaxValue, 1},
		{impl.MaxValue, 1, impl.MaxValue},
		{impl.MaxValue, 2, impl.MaxValue / 2},
		{impl.MaxValue, 3, 333333333334},
		{impl.MaxValue, impl.MaxValue - 1, 2},
		{impl.MaxValue, impl.MaxValue, 1},
		{impl.MaxValue - 1, impl.MaxValue, 1},
	} {
		if got := impl.CeilDiv(c.a, c.b); got != c.want {
			t.Errorf("CeilDiv(%d, %d) = %d, want %d", c.a, c.b, got, c.want)
		}
	}
}

func TestCeilDivIsTheLeastThatCovers(t *testing.T) {
	for a := range 200 {
		for b := 1; b <= 60; b++ {
			q := impl.CeilDiv(a, b)
			if q*b < a || (q-1)*b >= a {
				t.Errorf("CeilDiv(%d, %d) = %d", a, b, q)
			}
		}
	}
}

func TestCeilDivRejects(t *testing.T) {
	for _, c := range [][2]int{
		{-1, 2}, {-7, 3}, {-1, 1}, {-impl.MaxValue, 1},
		{impl.MaxValue + 1, 1}, {impl.MaxValue + 1, impl.MaxValue},
		{1, 0}, {0, 0}, {impl.MaxValue, 0},
		{1, -1}, {6, -3}, {7, -impl.MaxValue},
		{1, impl.MaxValue + 1}, {impl.MaxValue, impl.MaxValue + 1},
		{-6, -3}, {impl.MaxValue + 1, impl.MaxValue + 1},
		{math.MinInt, 1}, {math.MinInt, -1}, {math.MaxInt, 1}, {math.MaxInt, math.MaxInt},
		{5, math.MaxInt}, {5, math.MinInt},
	} {
		if got := impl.CeilDiv(c[0], c[1]); got != 0 {
			t.Errorf("CeilDiv(%d, %d) = %d, want 0", c[0], c[1], got)
		}
	}
}

func TestMod(t *testing.T) {
	for _, c := range []struct{ p, q, want int }{
		{15, 7, 1},
		{14, 7, 0},
		{3, 7, 3},
		{0, 7, 0},
		{-1, 7, 6},
		{-6, 7, 1},
		{-7, 7, 0},
		{-8, 7, 6},
		{-15, 7, 6},
		{5, 1, 0},
		{-5, 1, 0},
		{impl.MaxValue, impl.MaxValue, 0},
		{impl.MaxValue - 1, impl.MaxValue, impl.MaxValue - 1},
		{impl.MaxValue + 1, impl.MaxValue, 1},
		{-1, impl.MaxValue, impl.MaxValue - 1},
		{-impl.MaxValue, impl.MaxValue, 0},
		{math.MaxInt, 10, 7},
		{math.MinInt, 10, 2},
		{math.MinInt, 1, 0},
		{math.MaxInt, impl.MaxValue, 36854775807},
		{math.MinInt, impl.MaxValue, impl.MaxValue - 36854775808},
	} {
		if got := impl.Mod(c.p, c.q); got != c.want {
			t.Errorf("Mod(%d, %d) = %d, want %d", c.p, c.q, got, c.want)
		}
	}
}

func TestModStaysInRangeAndDiffersByMultiples(t *testing.T) {
	for p := -150; p <= 150; p++ {
		for q := 1; q <= 40; q++ {
			r := impl.Mod(p, q)
			if r < 0 || r >= q || (p-r)%q != 0 {
				t.Errorf("Mod(%d, %d) = %d", p, q, r)
			}
		}
	}
}

func TestModRejects(t *testing.T) {
	for _, c := range [][2]int{
		{3, 0}, {-3, 0}, {0, 0},
		{3, -7}, {-3, -7}, {3, -1}, {-1, -impl.MaxValue},
		{3, impl.MaxValue + 1}, {-3, impl.MaxValue + 1},
		{3, math.MaxInt}, {3, math.MinInt}, {math.MinInt, -1}, {math.MinInt, math.MinInt + 1},
	} {
		if got := impl.Mod(c[0], c[1]); got != 0 {
			t.Errorf("Mod(%d, %d) = %d, want 0", c[0], c[1], got)
		}
	}
}

func TestInRange(t *testing.T) {
	for _, c := range []struct {
		n, low, high int
		want         bool
	}{
		{2, 2, 3, true},
		{3, 2, 3, true},
		{4, 2, 3, false},
		{1, 2, 3, false},
		{5, 2, 9, true},
		{5, 5, 5, true},
		{4, 5, 5, false},
		{6, 5, 5, false},
		{5, 6, 4, false},
		{4, 6, 4, false},
		{6, 6, 4, false},
		{-2, -3, -1, true},
		{-4, -3, -1, false},
		{0, -3, -1, false},
		{0, math.MinInt, math.MaxInt, true},
		{math.MinInt, math.MinInt, math.MaxInt, true},
		{math.MaxInt, math.MinInt, math.MaxInt, true},
		{math.MinInt, math.MinInt + 1, math.MaxInt, false},
		{math.MaxInt, math.MinInt, math.MaxInt - 1, false},
		{0, math.MaxInt, math.MinInt, false},
	} {
		if got := impl.InRange(c.n, c.low, c.high); got != c.want {
			t.Errorf("InRange(%d, %d, %d) = %v, want %v", c.n, c.low, c.high, got, c.want)
		}
	}
}
