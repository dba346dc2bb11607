package tests

import (
	"math"
	"strconv"
	"strings"
	"testing"

	"loop.example/g03001/impl"
)

func TestMaxValue(t *testing.T) {
	if impl.MaxValue != 1000000000000 {
		t.Errorf("MaxValue is %d", impl.MaxValue)
	}
}

func TestFormatInt(t *testing.T) {
	cases := []struct {
		n    int
		want string
	}{
		{0, "0"}, {7, "7"}, {10, "10"}, {120, "120"}, {-1, "-1"}, {-3, "-3"}, {-10, "-10"},
		{impl.MaxValue, "1000000000000"}, {impl.MaxValue + 1, "1000000000001"}, {-impl.MaxValue, "-1000000000000"},
		{math.MaxInt, "9223372036854775807"}, {math.MinInt, "-9223372036854775808"},
	}
	for _, c := range cases {
		if got := impl.FormatInt(c.n); got != c.want {
			t.Errorf("FormatInt(%d) = %q, want %q", c.n, got, c.want)
		}
	}
}

func TestParseIntAccepts(t *testing.T) {
	cases := []struct {
		s    string
		want int
	}{
		{"0", 0}, {"1", 1}, {"9", 9}, {"10", 10}, {"17", 17}, {"100", 100}, {"1020", 1020},
		{"1234567890", 1234567890}, {"999999999999", impl.MaxValue - 1}, {"1000000000000", impl.MaxValue},
	}
	for _, c := range cases {
		if got, ok := impl.ParseInt(c.s); !ok || got != c.want {
			t.Errorf("ParseInt(%q) = %d, %v, want %d, true", c.s, got, ok, c.want)
		}
	}
}

func TestParseIntRejects(t *testing.T) {
	cases := []string{
		"",
		"00", "01", "017", "0000000000000", "00000000000000000001", "01000000000000", // leading zeros
		"-", "+", "-0", "+0", "-1", "+1", "-17", "--1", "1-", "1+", "-1000000000000", "-9223372036854775808", // signs
		" ", " 1", "1 ", "\t1", "1\n", "1 2", "\x001", "1\x00", // blanks and the byte zero
		"x", "1x", "x1", "0x1", "0b1", "1_000", "1,000", "1.0", "1e3", "/", ":", "1/", "1:", // other bytes
		"\xb2", "\xff", "1\xb1", "\u0663", "\uff11", // bytes beyond ASCII, digits of other scripts
		"1000000000001", "1000000000010", "10000000000000", "9223372036854775807", "9223372036854775808", // beyond MaxValue
		"18446744073709551616", "18446744073709551633", "340282366920938463463374607431768211473", // 0 or 17 if it wrapped around
		strings.Repeat("9", 500), "1" + strings.Repeat("0", 500),
	}
	for _, s := range cases {
		if got, ok := impl.ParseInt(s); ok || got != 0 {
			t.Errorf("ParseInt(%q) = %d, %v, want 0, false", s, got, ok)
		}
	}
}

// TestParseIntInvertsFormatInt goes up to and beyond both ends of the range.
func TestParseIntInvertsFormatInt(t *testing.T) {
	check := func(n int) {
		got, ok := impl.ParseInt(impl.FormatInt(n))
		if n >= 0 && n <= impl.MaxValue {
			if !ok || got != n {
				t.Errorf("the text of %d is parsed as %d, %v", n, got, ok)
			}
		} else if ok || got != 0 {
			t.Errorf("the text of %d, which is out of range, is parsed as %d, %v", n, got, ok)
		}
	}
	for n := -300; n <= 3000; n++ {
		check(n)
	}
	for p := 10; p <= 100*impl.MaxValue; p *= 10 {
		for d := -2; d <= 2; d++ {
			check(p + d)
			check(-p + d)
		}
	}
	check(math.MaxInt)
	check(math.MinInt)
}

// TestParseIntShortStrings tries every string of at most two bytes: only those that are the text of a number may be parsed.
func TestParseIntShortStrings(t *testing.T) {
	texts := map[string]int{}
	for n := range 100 {
		texts[strconv.Itoa(n)] = n
	}
	check := func(s string) {
		want, wantOk := texts[s]
		if got, ok := impl.ParseInt(s); got != want || ok != wantOk {
			t.Errorf("ParseInt(%q) = %d, %v, want %d, %v", s, got, ok, want, wantOk)
		}
	}
	check("")
	for a := range 256 {
		check(string([]byte{byte(a)}))
		for b := range 256 {
			check(string([]byte{byte(a), byte(b)}))
		}
	}
}

func TestMinAndMax(t *testing.T) {
	ordered := []int{math.MinInt, math.MinInt + 1, -impl.MaxValue, -2, -1, 0, 1, 2, impl.MaxValue, math.MaxInt - 1, math.MaxInt}
	for i, a := range ordered {
		for j, b := range ordered {
			low, high := a, b
			if i > j {
				low, high = b, a
			}
			if got := impl.Min(a, b); got != low {
				t.Errorf("Min(%d, %d) = %d", a, b, got)
			}
			if got := impl.Max(a, b); got != high {
				t.Errorf("Max(%d, %d) = %d", a, b, got)
			}
		}
	}
}

func TestCeilDiv(t *testing.T) {
	for a := range 80 {
		for b := 1; b <= 25; b++ {
			want := 0
			for want*b < a {
				want++
			}
			if got := impl.CeilDiv(a, b); got != want {
				t.Errorf("CeilDiv(%d, %d) = %d, want %d", a, b, got, want)
			}
		}
	}
	const m = impl.MaxValue
	cases := []struct{ a, b, want int }{
		{0, m, 0}, {1, m, 1}, {m, 1, m}, {m, 2, m / 2}, {m, m, 1}, {m, m - 1, 2}, {m - 1, m, 1}, {m, 3, 333333333334},
	}
	for _, c := range cases {
		if got := impl.CeilDiv(c.a, c.b); got != c.want {
			t.Errorf("CeilDiv(%d, %d) = %d, want %d", c.a, c.b, got, c.want)
		}
	}
}

func TestCeilDivOutOfRange(t *testing.T) {
	const m = impl.MaxValue
	cases := []struct{ a, b int }{
		{1, 0}, {7, 0}, {0, 0}, {7, -3}, {-7, -3}, {7, m + 1}, {m, m + 1}, {7, math.MinInt}, {7, math.MaxInt},
		{-1, 2}, {-1, 1}, {-7, 1}, {-1, 0}, {m + 1, 1}, {m + 1, m}, {math.MinInt, 1}, {math.MaxInt, 1},
		{m + 1, m + 1}, {math.MinInt, -1}, {math.MaxInt, math.MaxInt},
	}
	for _, c := range cases {
		if got := impl.CeilDiv(c.a, c.b); got != 0 {
			t.Errorf("CeilDiv(%d, %d) = %d, want 0", c.a, c.b, got)
		}
	}
}

func TestMod(t *testing.T) {
	for q := 1; q <= 25; q++ {
		want := 0
		for p := -4 * q; p <= 4*q; p++ {
			if got := impl.Mod(p, q); got != want {
				t.Errorf("Mod(%d, %d) = %d, want %d", p, q, got, want)
			}
			want++
			if want == q {
				want = 0
			}
		}
	}
	const m = impl.MaxValue
	cases := []struct{ p, q, want int }{
		{m, m, 0}, {m - 1, m, m - 1}, {m + 1, m, 1}, {-1, m, m - 1}, {-m, m, 0}, {-m - 1, m, m - 1},
		{math.MaxInt, 1, 0}, {math.MaxInt, 7, 0}, {math.MaxInt, m, 36854775807},
		{math.MinInt, 1, 0}, {math.MinInt, 2, 0}, {math.MinInt, 7, 6}, {math.MinInt, m, 963145224192},
	}
	for _, c := range cases {
		if got := impl.Mod(c.p, c.q); got != c.want {
			t.Errorf("Mod(%d, %d) = %d, want %d", c.p, c.q, got, c.want)
		}
	}
}

func TestModOutOfRange(t *testing.T) {
	for _, q := range []int{0, -1, -7, impl.MaxValue + 1, math.MinInt, math.MaxInt} {
		for _, p := range []int{math.MinInt, -impl.MaxValue, -5, -1, 0, 1, 5, impl.MaxValue, math.MaxInt} {
			if got := impl.Mod(p, q); got != 0 {
				t.Errorf("Mod(%d, %d) = %d, want 0", p, q, got)
			}
		}
	}
}

func TestInRange(t *testing.T) {
	cases := []struct {
		n, low, high int
		want         bool
	}{
		{2, 2, 3, true}, {3, 2, 3, true}, {1, 2, 3, false}, {4, 2, 3, false},
		{0, 0, 0, true}, {1, 0, 0, false}, {-1, 0, 0, false}, {-2, -3, -1, true}, {0, -3, -1, false},
		{2, 3, 1, false}, {3, 3, 2, false}, {2, 3, 2, false},
		{math.MinInt, math.MinInt, math.MaxInt, true}, {math.MaxInt, math.MinInt, math.MaxInt, true}, {0, math.MinInt, math.MaxInt, true},
		{math.MinInt, math.MinInt + 1, math.MaxInt, false}, {math.MaxInt, math.MinInt, math.MaxInt - 1, false},
		{0, math.MaxInt, math.MinInt, false},
	}
	for _, c := range cases {
		if got := impl.InRange(c.n, c.low, c.high); got != c.want {
			t.Errorf("InRange(%d, %d, %d) = %v, want %v", c.n, c.low, c.high, got, c.want)
		}
	}
}
