package lex

import (
	"math"
	"slices"
	"strings"
	"testing"

	"tempera/api"
)

const lastSign = 0x10FFFF

// encode lays a number's bits into bytes as UTF-8 does, whether or not a right text may have them so: in size bytes, from 1 to 4.
func encode(n, size int) string {
	if size == 1 {
		return string([]byte{byte(n)})
	}
	b := make([]byte, size)
	for i := size - 1; i > 0; i-- {
		b[i] = 0x80 | byte(n&0x3F)
		n >>= 6
	}
	b[0] = []byte{0, 0, 0xC0, 0xE0, 0xF0}[size] | byte(n)
	return string(b)
}

// shortest is in how many bytes a number fits.
func shortest(n int) int {
	switch {
	case n < 0x80:
		return 1
	case n < 0x800:
		return 2
	case n < 0x10000:
		return 3
	}
	return 4
}

// isSign tells whether a right text may have a number as a sign.
func isSign(n int) bool { return n >= 0 && n <= lastSign && (n < 0xD800 || n > 0xDFFF) }

// decode reads a text bit by bit: its signs, where they begin, and whether it is right.
func decode(s string) (signs, places []int, right bool) {
	for at := 0; at < len(s); {
		size, n := 0, 0
		switch b := int(s[at]); {
		case b < 0x80:
			size, n = 1, b
		case b&0xE0 == 0xC0:
			size, n = 2, b&0x1F
		case b&0xF0 == 0xE0:
			size, n = 3, b&0x0F
		case b&0xF8 == 0xF0:
			size, n = 4, b&0x07
		default:
			return nil, nil, false
		}
		if at+size > len(s) {
			return nil, nil, false
		}
		for i := 1; i < size; i++ {
			if s[at+i]&0xC0 != 0x80 {
				return nil, nil, false
			}
			n = n<<6 | int(s[at+i]&0x3F)
		}
		if !isSign(n) || shortest(n) != size {
			return nil, nil, false
		}
		signs, places = append(signs, n), append(places, at)
		at += size
	}
	return signs, places, true
}

// wordsWanted are a line's words, found sign by sign.
func wordsWanted(line string) ([]string, api.Errno) {
	signs, _, right := decode(line)
	if !right {
		return nil, api.ErrLine
	}
	var words []string
	begun := ""
	for i, n := range signs {
		if n < 32 || n == 127 {
			return nil, api.ErrLine
		}
		if n != 32 {
			begun += encode(n, shortest(n))
			continue
		}
		if begun == "" || i == len(signs)-1 {
			return nil, api.ErrLine
		}
		words, begun = append(words, begun), ""
	}
	if begun != "" {
		words = append(words, begun)
	}
	return words, api.OK
}

// nameWanted tells whether a text is a name.
func nameWanted(s string) bool {
	signs, _, right := decode(s)
	if !right || len(signs) < 1 || len(signs) > 32 {
		return false
	}
	for i, n := range signs {
		letter := n >= 97 && n <= 122 || n >= 65 && n <= 90 || n >= 0xC0
		if !letter && (i == 0 || !(n >= 48 && n <= 57 || n == 45 || n == 95)) {
			return false
		}
	}
	return true
}

// hold asks all calls of one text, and holds their answers against what they have to be.
func hold(t *testing.T, s string) {
	t.Helper()
	signs, places, right := decode(s)
	if Right(s) != right {
		t.Errorf("Right(%.40q) is %v", s, !right)
	}
	if got := Signs(s); !slices.Equal(got, signs) {
		t.Errorf("Signs(%.40q) is %v, want %v", s, got, signs)
	}
	if got := Places(s); !slices.Equal(got, places) {
		t.Errorf("Places(%.40q) is %v, want %v", s, got, places)
	}
	if right {
		if got, e := Text(signs); got != s || e != api.OK {
			t.Errorf("Text(%v) is %.40q, %d, want %.40q", signs, got, e, s)
		}
	}
	words, wordsE := wordsWanted(s)
	if got, e := Words(s); !slices.Equal(got, words) || e != wordsE {
		t.Errorf("Words(%.40q) is %.40q, %d, want %.40q, %d", s, got, e, words, wordsE)
	}
	joined, joinE := s, api.OK
	if !slices.Equal(words, []string{s}) {
		joined, joinE = "", api.ErrLine
	}
	if got, e := Join(s); got != joined || e != joinE {
		t.Errorf("Join(%.40q) is %.40q, %d, want %.40q, %d", s, got, e, joined, joinE)
	}
	if got, want := Name(s), nameWanted(s); got != want {
		t.Errorf("Name(%.40q) is %v", s, got)
	}
}

// edgeBytes are bytes at which the kinds of signs, of words and of names begin and end.
func edgeBytes() []byte {
	return []byte("\x00\x1f\x20\x7f-09_AZaz\x80\x8f\x90\x9f\xa0\xbf\xc0\xc1\xc2\xdf\xe0\xe1\xec\xed\xee\xef\xf0\xf1\xf3\xf4\xf5\xf8\xff")
}

// P4.1, and all the others at each sign.

func TestEachSignAlone(t *testing.T) {
	for n := 0; n <= lastSign+2 && !t.Failed(); n++ {
		hold(t, encode(n, shortest(n)))
	}
}

func TestEachTextOfTwoBytes(t *testing.T) {
	hold(t, "")
	for a := range 256 {
		hold(t, string([]byte{byte(a)}))
		for b := range 256 {
			hold(t, string([]byte{byte(a), byte(b)}))
		}
	}
}

func TestTextsOfEdgeBytes(t *testing.T) {
	edges := edgeBytes()
	for _, a := range edges {
		for _, b := range edges {
			for _, c := range edges {
				hold(t, string([]byte{a, b, c}))
				for _, d := range edges {
					if t.Failed() {
						return
					}
					hold(t, string([]byte{a, b, c, d}))
				}
			}
		}
	}
}

func TestRight(t *testing.T) {
	for _, s := range []string{
		"", "a", "\x00", "\t\n", "\x1f\x20\x7e\x7f", "draw a b",
		"\x7f\u0080", "\u07ff\u0800", "\uffff\U00010000", "\ud7ff\ue000", "\ufffd", "a\ufffdb", "\ufffe\uffff", "\ufeffa", "\U0010ffff",
	} {
		if !Right(s) {
			t.Errorf("Right(%q) is false", s)
		}
	}
}

// wrongTexts are texts that are not right.
func wrongTexts() []string {
	return []string{
		// Lone bytes from 128 on.
		"\x80", "\xbf", "\xc0", "\xc2", "\xf8", "\xfe", "\xff", "a\x80", "\x80a", "\u00e9\x80", "\U0010ffff\xbf",
		// Signs that are cut off at the end, or by another sign.
		"\xc3", "a\xc3", "\xe2\x82", "\xe2", "\xf0\x9f\x98", "\xf0\x9f", "\xf0", "\xc3a", "\xe2\x82a", "\xe2\x82\xe2\x82\xac", "\xf0\x9f\x98a",
		// Signs that are not in their shortest form.
		"\xc0\x80", "\xc1\xbf", "\xe0\x80\x80", "\xe0\x81\xbf", "\xe0\x9f\xbf", "\xf0\x80\x80\x80", "\xf0\x8f\xbf\xbf", "\xf0\x82\x82\xac", "\xc0\xa0", "\xc1\xa1",
		// Signs from D800 to DFFF, alone and in pairs.
		"\xed\xa0\x80", "\xed\xaf\xbf", "\xed\xb0\x80", "\xed\xbf\xbf", "\xed\xa0\xbd\xed\xb8\x80",
		// Signs above 10FFFF, and forms of five and six bytes.
		"\xf4\x90\x80\x80", "\xf5\x80\x80\x80", "\xf7\xbf\xbf\xbf", "\xf8\x88\x80\x80\x80", "\xfc\x84\x80\x80\x80\x80",
		// One that is wrong among some that are right, and behind many.
		"a\xffb", "\ufffd\xff", "\xff\ufffd", strings.Repeat("a", 1000) + "\xff", strings.Repeat("\u20ac", 1000) + "\xe2\x82",
	}
}

func TestWrongTexts(t *testing.T) {
	for _, s := range wrongTexts() {
		if Right(s) {
			t.Errorf("Right(%.40q) is true", s)
		}
		if got := Signs(s); len(got) != 0 {
			t.Errorf("Signs(%.40q) is %v, want none", s, got)
		}
		if got := Places(s); len(got) != 0 {
			t.Errorf("Places(%.40q) is %v, want none", s, got)
		}
		if Name(s) {
			t.Errorf("Name(%.40q) is true", s)
		}
		if Name("a" + s) {
			t.Errorf("Name(%.40q) is true", "a"+s)
		}
		hold(t, s)
	}
}

func TestSignsNotInTheirShortestForm(t *testing.T) {
	for size := 2; size <= 4; size++ {
		for _, n := range []int{0, 31, 32, 65, 126, 127, 128, 0xC0, 0x7FF, 0x800, 0xFFFD, 0xFFFF} {
			if size <= shortest(n) {
				continue
			}
			if s := encode(n, size); Right(s) || Right("a"+s+"b") {
				t.Errorf("Right holds %x to be right in %d bytes", n, size)
			}
		}
	}
}

func TestSignsAndPlaces(t *testing.T) {
	for _, c := range []struct {
		s             string
		signs, places []int
	}{
		{"", nil, nil},
		{"a", []int{97}, []int{0}},
		{"a b", []int{97, 32, 98}, []int{0, 1, 2}},
		{"\x00\n\x7f", []int{0, 10, 127}, []int{0, 1, 2}},
		{"a\u00e9b", []int{97, 0xE9, 98}, []int{0, 1, 3}},
		{"\u0080\u07ff", []int{0x80, 0x7FF}, []int{0, 2}},
		{"\u0800\uffff\ufffd", []int{0x800, 0xFFFF, 0xFFFD}, []int{0, 3, 6}},
		{"\ud7ff\ue000.", []int{0xD7FF, 0xE000, 46}, []int{0, 3, 6}},
		{"\U00010000\U0010ffffz", []int{0x10000, 0x10FFFF, 122}, []int{0, 4, 8}},
		{"a\u00e9\u20ac\U0001f600a", []int{97, 0xE9, 0x20AC, 0x1F600, 97}, []int{0, 1, 3, 6, 10}},
		{"e\u0301", []int{101, 0x301}, []int{0, 1}},
	} {
		if got := Signs(c.s); !slices.Equal(got, c.signs) {
			t.Errorf("Signs(%q) is %v, want %v", c.s, got, c.signs)
		}
		if got := Places(c.s); !slices.Equal(got, c.places) {
			t.Errorf("Places(%q) is %v, want %v", c.s, got, c.places)
		}
		if got, e := Text(c.signs); got != c.s || e != api.OK {
			t.Errorf("Text(%v) is %q, %d, want %q", c.signs, got, e, c.s)
		}
	}
}

func TestTextOfAllSigns(t *testing.T) {
	var signs []int
	var want strings.Builder
	for n := 0; n <= lastSign; n++ {
		if isSign(n) {
			signs = append(signs, n)
			want.WriteString(encode(n, shortest(n)))
		}
	}
	s, e := Text(signs)
	if s != want.String() || e != api.OK {
		t.Fatalf("Text of all signs is of %d bytes, %d, want %d bytes", len(s), e, want.Len())
	}
	if !slices.Equal(Signs(s), signs) {
		t.Error("Signs of the text of all signs are others")
	}
}

func TestTextOfNoSigns(t *testing.T) {
	wrong := []int{-1, -2, -65, -128, math.MinInt32, math.MinInt32 - 1, math.MinInt, math.MinInt + 97,
		0xD800, 0xD801, 0xDBFF, 0xDC00, 0xDFFE, 0xDFFF,
		0x110000, 0x110001, 0x1FFFFF, 0x200000, math.MaxInt32, math.MaxInt32 + 1, math.MaxUint32, math.MaxInt,
		1 << 32, 1<<32 + 97, 1<<32 + 0xFFFD, 1<<40 + 97, 1<<62 + 97, -1<<32 + 97, -1<<40 + 97}
	for _, n := range wrong {
		for _, signs := range [][]int{{n}, {97, n}, {n, 97}, {97, n, 98}, {n, n}} {
			if got, e := Text(signs); got != "" || e != api.ErrForm {
				t.Errorf("Text(%v) is %q, %d, want ErrForm", signs, got, e)
			}
		}
	}
	for n := 0xD800; n <= 0xDFFF; n++ {
		if got, e := Text([]int{n}); got != "" || e != api.ErrForm {
			t.Errorf("Text of %x is %q, %d, want ErrForm", n, got, e)
		}
	}
}

func TestTextOfNothing(t *testing.T) {
	for _, signs := range [][]int{nil, {}} {
		if got, e := Text(signs); got != "" || e != api.OK {
			t.Errorf("Text(%v) is %q, %d, want the empty text", signs, got, e)
		}
	}
}

func TestTextLeavesItsSigns(t *testing.T) {
	room := []int{97, 0x20AC, 0x10FFFF, 7, 8}
	s, e := Text(room[:3])
	if s != "a\u20ac\U0010ffff" || e != api.OK || !slices.Equal(room, []int{97, 0x20AC, 0x10FFFF, 7, 8}) {
		t.Errorf("Text is %q, %d, and its list became %v", s, e, room)
	}
	room[0] = 98
	if s != "a\u20ac\U0010ffff" {
		t.Errorf("the text became %q with its list", s)
	}
}

func TestAnswersAreNewMemory(t *testing.T) {
	const line = "a \u00e9"
	signs, places := Signs(line), Places(line)
	signs[0], places[0] = 7, 7
	if !slices.Equal(Signs(line), []int{97, 32, 0xE9}) || !slices.Equal(Places(line), []int{0, 1, 2}) {
		t.Error("signs or places are shared by two answers")
	}
	words, _ := Words(line)
	words[0] = "z"
	if again, e := Words(line); !slices.Equal(again, []string{"a", "\u00e9"}) || e != api.OK {
		t.Errorf("Words became %q, %d", again, e)
	}
}

// P4.2

func TestWordsAndJoin(t *testing.T) {
	for _, c := range []struct {
		line  string
		words []string
	}{
		{"", nil},
		{"a", []string{"a"}},
		{"draw a b", []string{"draw", "a", "b"}},
		{"a a a", []string{"a", "a", "a"}},
		{"clear 1 7 0 0", []string{"clear", "1", "7", "0", "0"}},
		{"! ~", []string{"!", "~"}},
		{"\u0080 \u0085 \u00a0", []string{"\u0080", "\u0085", "\u00a0"}},
		{"a\u00a0b\u2003c\u3000d", []string{"a\u00a0b\u2003c\u3000d"}},
		{"\u2028 \u00e9t\u00e9 \u20ac \U0001f600", []string{"\u2028", "\u00e9t\u00e9", "\u20ac", "\U0001f600"}},
		{"\ufffd \ud7ff\ue000 \U0010ffff", []string{"\ufffd", "\ud7ff\ue000", "\U0010ffff"}},
		{"- -- \"a\" ,", []string{"-", "--", "\"a\"", ","}},
	} {
		if got, e := Words(c.line); !slices.Equal(got, c.words) || e != api.OK {
			t.Errorf("Words(%q) is %q, %d, want %q", c.line, got, e, c.words)
		}
		if got, e := Join(c.words...); got != c.line || e != api.OK {
			t.Errorf("Join(%q) is %q, %d, want %q", c.words, got, e, c.line)
		}
	}
}

func TestLongLines(t *testing.T) {
	words := make([]string, 5000)
	for i := range words {
		words[i] = strings.Repeat("\u20ac", i%7+1)
	}
	line := strings.Join(words, " ")
	if got, e := Words(line); !slices.Equal(got, words) || e != api.OK {
		t.Errorf("Words of a line of %d words are %d, %d", len(words), len(got), e)
	}
	if got, e := Join(words...); got != line || e != api.OK {
		t.Errorf("Join of %d words is of %d bytes, %d", len(words), len(got), e)
	}
	if got, e := Words(line + " "); got != nil || e != api.ErrLine {
		t.Errorf("Words of a long line with a blank behind it are %d, %d", len(got), e)
	}
}

func TestWordsOfWhatIsNoLine(t *testing.T) {
	lines := []string{
		" ", "  ", "   ", " a", "  a", "a ", "a  ", "a  b", "a b  c", " a b", "a b ", " a ", "a   b", "\u00e9  \u00e9", " \u20ac",
		"\x00", "\t", "\n", "\r", "\x1f", "\x7f", "a\tb", "a b\n", "a\x00b c", "\x1f a", "a \x7f", "a\x7fb", "a\r", "\u00e9\x1f",
	}
	for n := range 32 {
		lines = append(lines, "a b"+encode(n, 1), encode(n, 1)+"a b", "a"+encode(n, 1)+"b")
	}
	for _, s := range wrongTexts() {
		lines = append(lines, s, "a "+s, s+" a", "a "+s+" b", s+" "+s)
	}
	for _, line := range lines {
		if got, e := Words(line); len(got) != 0 || e != api.ErrLine {
			t.Errorf("Words(%.40q) is %.40q, %d, want ErrLine", line, got, e)
		}
	}
}

func TestJoinOfWhatAreNoWords(t *testing.T) {
	wrong := []string{"", " ", "  ", "a b", " a", "a ", "a  b", "\u00e9 \u00e9",
		"\x00", "\t", "\n", "\x1f", "\x7f", "a\tb", "a\n", "\x1fa", "a\x7f", "\u00e9\x7f"}
	for _, w := range append(wrong, wrongTexts()...) {
		for _, words := range [][]string{{w}, {w, "a"}, {"a", w}, {"a", w, "b"}, {w, w}} {
			if got, e := Join(words...); got != "" || e != api.ErrLine {
				t.Errorf("Join(%.40q) is %.40q, %d, want ErrLine", words, got, e)
			}
		}
	}
}

func TestJoinOfASignCutInTwo(t *testing.T) {
	if got, e := Join("\xe2\x82", "\xac"); got != "" || e != api.ErrLine {
		t.Errorf("Join of a sign's parts is %q, %d, want ErrLine", got, e)
	}
}

func TestJoinOfNoWord(t *testing.T) {
	for _, words := range [][]string{nil, {}} {
		if got, e := Join(words...); got != "" || e != api.OK {
			t.Errorf("Join(%q) is %q, %d, want the empty line", words, got, e)
		}
	}
	if got, e := Join(); got != "" || e != api.OK {
		t.Errorf("Join() is %q, %d, want the empty line", got, e)
	}
}

func TestJoinLeavesItsWords(t *testing.T) {
	room := []string{"a", "b", "c", "d"}
	got, e := Join(room[:2]...)
	if got != "a b" || e != api.OK || !slices.Equal(room, []string{"a", "b", "c", "d"}) {
		t.Errorf("Join is %q, %d, and its list became %q", got, e, room)
	}
}

// P4.3

func TestName(t *testing.T) {
	for _, s := range []string{
		"x", "a", "z", "A", "Z", "x-1", "x_1", "x1", "a-", "a_", "a--__", "aZ09-_", "a0", "a9", "draw",
		"\u00c0", "\u00d7", "\u00f7", "\u00e9t\u00e9", "a\u00c0", "\u07ff", "\u0800", "\u20ac", "\ud7ff", "\ue000", "\ufffd", "a\ufffd", "\uffff", "\U00010000", "\U0001f600", "\U0010ffff", "\u3000", "\u0661",
		strings.Repeat("a", 31), strings.Repeat("a", 32), strings.Repeat("\u00e9", 32), strings.Repeat("\u20ac", 32), strings.Repeat("\U0010ffff", 32),
		"a" + strings.Repeat("9", 31), "a" + strings.Repeat("-", 31),
	} {
		if !Name(s) {
			t.Errorf("Name(%q) is false", s)
		}
	}
}

func TestWhatIsNoName(t *testing.T) {
	for _, s := range []string{
		"", "1x", "0", "9", "-", "_", "-x", "_x", "1", " ", " a", "a ", "a b", "a\n", "\x00", "a\x00",
		"@", "[", "`", "{", "/", ":", "a@", "a[", "a`", "a{", "a/", "a:", "a.", "a,", "a+", "a^",
		"\x7f", "\u0080", "\u00a0", "\u00aa", "\u00b5", "\u00ba", "\u00bf", "a\u0080", "a\u00bf", "a\u00aa", "\u00c0\u00bf",
		strings.Repeat("a", 33), strings.Repeat("\u00e9", 33), strings.Repeat("\U0010ffff", 33), strings.Repeat("a", 64), strings.Repeat("a", 5000),
		strings.Repeat("a", 31) + " ", strings.Repeat("a", 32) + "\xff", strings.Repeat("a", 31) + "\xc3", strings.Repeat("1", 32),
	} {
		if Name(s) {
			t.Errorf("Name(%.40q) is true", s)
		}
	}
}

func TestNamesOfEachLength(t *testing.T) {
	for _, sign := range []string{"a", "\u00c0", "\u0800", "\U00010000"} {
		for length := range 70 {
			s := strings.Repeat(sign, length)
			if got, want := Name(s), length >= 1 && length <= 32; got != want {
				t.Errorf("Name of %d times %q is %v", length, sign, got)
			}
		}
	}
}

func TestEachSignWithinAName(t *testing.T) {
	for n := 0; n <= lastSign && !t.Failed(); n++ {
		if !isSign(n) {
			continue
		}
		for _, s := range []string{"x" + encode(n, shortest(n)), "x" + encode(n, shortest(n)) + "y", encode(n, shortest(n)) + "x"} {
			if got, want := Name(s), nameWanted(s); got != want {
				t.Errorf("Name(%q) is %v", s, got)
			}
		}
	}
}
