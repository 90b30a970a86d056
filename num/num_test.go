package num

import (
	"math"
	"math/big"
	"strings"
	"testing"

	"tempera/api"
)

const most, least = math.MaxInt, math.MinInt

// ints are numbers at which their texts grow by a digit, at which ints end, and some between, with their neighbours.
func ints() []int {
	l := []int{least, least + 1, least + 2, most - 2, most - 1, most, 1234567890, 0x123456789abcdef}
	for p := 1; p <= most/10; p *= 10 {
		for d := -2; d <= 2; d++ {
			l = append(l, p+d, -p+d, 5*p+d, -5*p+d)
		}
	}
	for p := 1; p > 0 && p <= 1<<60; p *= 16 {
		for d := -2; d <= 2; d++ {
			l = append(l, p+d, -p+d, 9*p/8+d)
		}
	}
	for n := -1100; n <= 1100; n++ {
		l = append(l, n)
	}
	return l
}

// P3.1

func TestDecTold(t *testing.T) {
	for _, c := range []struct {
		n    int
		want string
	}{
		{0, "0"}, {1, "1"}, {9, "9"}, {10, "10"}, {100, "100"}, {1020, "1020"},
		{-1, "-1"}, {-5, "-5"}, {-10, "-10"}, {-907, "-907"},
		{most, "9223372036854775807"}, {most - 1, "9223372036854775806"},
		{least, "-9223372036854775808"}, {least + 1, "-9223372036854775807"},
	} {
		if got := Dec(c.n); got != c.want {
			t.Errorf("Dec(%d) is %q, want %q", c.n, got, c.want)
		}
	}
}

func TestDecAgainstNumbersOfAnySize(t *testing.T) {
	for _, n := range ints() {
		if got, want := Dec(n), big.NewInt(int64(n)).String(); got != want {
			t.Errorf("Dec(%d) is %q, want %q", n, got, want)
		}
	}
}

func TestUndecReadsWhatDecTells(t *testing.T) {
	for _, n := range ints() {
		if got, e := Undec(Dec(n)); got != n || e != api.OK {
			t.Errorf("Undec(Dec(%d)) is %d, %d", n, got, e)
		}
	}
}

func TestUndecOfWrittenTexts(t *testing.T) {
	for _, c := range []struct {
		s    string
		want int
	}{
		{"0", 0}, {"7", 7}, {"-7", -7}, {"10", 10}, {"-10", -10}, {"65536", 65536},
		{"9223372036854775807", most}, {"-9223372036854775808", least},
	} {
		if got, e := Undec(c.s); got != c.want || e != api.OK {
			t.Errorf("Undec(%q) is %d, %d, want %d", c.s, got, e, c.want)
		}
	}
}

func TestUndecOfWhatIsNoDec(t *testing.T) {
	for _, s := range []string{
		"",
		"00", "01", "007", "-01", "-00", "-007", "00000000000000000000001",
		"-0", "+0", "-", "+", "--", "--1", "+1", "+-1", "-+1", "1-", "1+",
		" ", " 1", "1 ", "- 1", "1 2", "1\n", "\t1", "\x001", "1\x00",
		"1_000", "1,000", "1.0", "1.", ".1", "1e3", "0x1", "0b1", "0o7", "1a", "a", "ff", "1-2", "12/", "12:",
		"\u0661", "\uff11", "\u22121", "\xff", "1\x80", "Inf", "NaN",
		"9223372036854775808", "-9223372036854775809", "9223372036854775817", "10000000000000000000",
		"18446744073709551615", "18446744073709551616", "18446744073709551617", "-18446744073709551615",
		"36893488147419103233", "99999999999999999999", "-99999999999999999999",
		strings.Repeat("9", 1000), "-" + strings.Repeat("1", 1000), strings.Repeat("0", 1000), strings.Repeat("-", 1000),
	} {
		if got, e := Undec(s); got != 0 || e != api.ErrForm {
			t.Errorf("Undec(%.40q) is %d, %d, want 0, ErrForm", s, got, e)
		}
	}
}

// Each text of at most four of these bytes either is a number's Dec, or is refused.
func TestUndecOfAllShortTexts(t *testing.T) {
	known := map[string]int{}
	for n := -999; n <= 9999; n++ {
		known[big.NewInt(int64(n)).String()] = n
	}
	var ask func(s string)
	ask = func(s string) {
		want, is := known[s]
		wantE := api.OK
		if !is {
			wantE = api.ErrForm
		}
		if got, e := Undec(s); got != want || e != wantE {
			t.Errorf("Undec(%q) is %d, %d, want %d, %d", s, got, e, want, wantE)
		}
		if len(s) == 4 {
			return
		}
		for _, b := range []byte("0123456789-+_ ./:ax") {
			ask(s + string(rune(b)))
		}
	}
	ask("")
}

// P3.2

// power is 16 to the power of so many digits, from 0 to 15.
func power(digits int) int {
	p := 1
	for range digits {
		p *= 16
	}
	return p
}

// hexWanted is what Hex has to tell, with zeros laid ahead of what big numbers tell.
func hexWanted(n, digits int) (string, api.Errno) {
	if digits < 1 || digits > 15 {
		return "", api.ErrArg
	}
	if n < 0 || n >= power(digits) {
		return "", api.ErrRange
	}
	s := big.NewInt(int64(n)).Text(16)
	return strings.Repeat("0", digits-len(s)) + s, api.OK
}

func TestHexTold(t *testing.T) {
	for _, c := range []struct {
		n, digits int
		want      string
	}{
		{0, 1, "0"}, {9, 1, "9"}, {10, 1, "a"}, {15, 1, "f"},
		{0, 4, "0000"}, {255, 4, "00ff"}, {255, 2, "ff"}, {0xab, 2, "ab"}, {0xcde, 3, "cde"},
		{7, 8, "00000007"}, {0xfedcba98, 8, "fedcba98"}, {0xffffffff, 8, "ffffffff"},
		{0, 15, "000000000000000"}, {1, 15, "000000000000001"},
		{0x123456789abcdef, 15, "123456789abcdef"}, {1<<60 - 1, 15, "fffffffffffffff"},
	} {
		if got, e := Hex(c.n, c.digits); got != c.want || e != api.OK {
			t.Errorf("Hex(%d, %d) is %q, %d, want %q", c.n, c.digits, got, e, c.want)
		}
	}
}

func TestHexAgainstNumbersOfAnySize(t *testing.T) {
	counts := []int{least, least + 1, -1 << 32, 1 << 32, 1<<32 + 1, 1 << 62, 1<<62 + 1, most - 1, most}
	for digits := -20; digits <= 80; digits++ {
		counts = append(counts, digits)
	}
	for _, digits := range counts {
		for _, n := range ints() {
			want, wantE := hexWanted(n, digits)
			if got, e := Hex(n, digits); got != want || e != wantE {
				t.Fatalf("Hex(%d, %d) is %q, %d, want %q, %d", n, digits, got, e, want, wantE)
			}
		}
	}
}

func TestHexAtTheGreatestOfSoManyDigits(t *testing.T) {
	for digits := 1; digits <= 15; digits++ {
		p := power(digits)
		if got, e := Hex(p-1, digits); got != strings.Repeat("f", digits) || e != api.OK {
			t.Errorf("Hex(%d, %d) is %q, %d", p-1, digits, got, e)
		}
		for _, n := range []int{p, p + 1, most, -1, -p, least} {
			if got, e := Hex(n, digits); got != "" || e != api.ErrRange {
				t.Errorf("Hex(%d, %d) is %q, %d, want ErrRange", n, digits, got, e)
			}
		}
	}
}

func TestHexAsksForDigitsAheadOfTheNumber(t *testing.T) {
	for _, digits := range []int{least, -1, 0, 16, 17, most} {
		for _, n := range []int{least, -1, 0, 1, 255, 1 << 60, most} {
			if got, e := Hex(n, digits); got != "" || e != api.ErrArg {
				t.Errorf("Hex(%d, %d) is %q, %d, want ErrArg", n, digits, got, e)
			}
		}
	}
}

func TestUnhexOfWrittenTexts(t *testing.T) {
	for _, c := range []struct {
		s    string
		want int
	}{
		{"0", 0}, {"9", 9}, {"a", 10}, {"f", 15}, {"10", 16}, {"0010", 16}, {"00ff", 255}, {"abc", 0xabc}, {"def", 0xdef},
		{"000000000000000", 0}, {"123456789abcdef", 0x123456789abcdef}, {"fffffffffffffff", 1<<60 - 1}, {"800000000000000", 1 << 59},
	} {
		if got, e := Unhex(c.s); got != c.want || e != api.OK {
			t.Errorf("Unhex(%q) is %d, %d, want %d", c.s, got, e, c.want)
		}
	}
}

func TestUnhexReadsWhatHexTells(t *testing.T) {
	for digits := 1; digits <= 15; digits++ {
		for _, n := range ints() {
			s, e := Hex(n, digits)
			if e != api.OK {
				continue
			}
			if got, e := Unhex(s); got != n || e != api.OK {
				t.Errorf("Unhex(%q) is %d, %d, want %d", s, got, e, n)
			}
		}
	}
}

func TestUnhexOfWhatIsNoDigits(t *testing.T) {
	for _, s := range []string{
		"", "0000000000000000", "0000000000000001", "ffffffffffffffff", strings.Repeat("1", 17), strings.Repeat("0", 1000),
		"FF", "A", "0F", "fF", "Ff", "g", "0g", "g0", "0x1", "x", "-1", "+1", "-", " 1", "1 ", "1_0", "1\n", "\x00", "/", ":", "`", "@",
		"\u0661", "\uff11", "\u00e4", "\xff", "00000000000000\u0661", "0123456789abcdef",
	} {
		if got, e := Unhex(s); got != 0 || e != api.ErrForm {
			t.Errorf("Unhex(%.40q) is %d, %d, want 0, ErrForm", s, got, e)
		}
	}
}

// Each byte that is none of the digits is refused, wherever it stands.
func TestUnhexOfEachByte(t *testing.T) {
	for b := range 256 {
		digit := strings.IndexByte("0123456789abcdef", byte(b))
		for length := 1; length <= 15; length++ {
			for at := range length {
				text := []byte(strings.Repeat("0", length))
				text[at] = byte(b)
				want, wantE := digit*power(length-1-at), api.OK
				if digit < 0 {
					want, wantE = 0, api.ErrForm
				}
				if got, e := Unhex(string(text)); got != want || e != wantE {
					t.Fatalf("Unhex(%q) is %d, %d, want %d, %d", text, got, e, want, wantE)
				}
			}
		}
	}
}
