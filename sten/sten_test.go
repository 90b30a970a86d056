package sten

import (
	"math"
	"testing"

	"tempera/api"
)

const most, least = math.MaxInt, math.MinInt

// The numbers of a stencil test: first its kinds, then what is from 0 to 255.
const (
	atFn = iota
	atFail
	atZFail
	atPass
	atRef
	atRead
	atWrite
	ends

	firstNumber = atRef
)

// with is a stencil test with one of its numbers set.
func with(s api.Sten, at, n int) api.Sten {
	*[ends]*int{&s.Fn, &s.Fail, &s.ZFail, &s.Pass, &s.Ref, &s.Read, &s.Write}[at] = n
	return s
}

// bases are stencil tests that may be, of which one number is then made another one.
func bases() []api.Sten {
	return []api.Sten{
		{}, Plain(),
		{Fn: 7, Ref: 255, Read: 255, Write: 255, Fail: 7, ZFail: 7, Pass: 7},
		{Fn: 2, Ref: 128, Read: 15, Write: 240, Fail: 1, ZFail: 3, Pass: 6},
	}
}

// wrongKinds are kinds of no test and no deed, some of which would be one if their higher bits, or their sign, were lost.
func wrongKinds() []int {
	return []int{
		-1, 8, -2, -7, -8, -9, 9, 15, 16, 255, 256, 263, 1 << 16, -1 << 16, 1<<31 + 1, 1 << 32, 1<<32 + 7, -1 << 32, -1<<32 + 1,
		1 << 62, least, least + 1, least + 7, most - 1, most,
	}
}

// wrongStencils are numbers that are not from 0 to 255, some of which would be if their higher bits, or their sign, were lost.
func wrongStencils() []int {
	return []int{
		-1, 256, -2, 257, -255, -256, -257, 511, 512, 1 << 16, -1 << 16, 1<<31 + 1, 1 << 32, 1<<32 + 7, -1 << 32, -1<<32 + 255,
		1 << 62, least, least + 1, least + 255, most - 1, most,
	}
}

// wrongs are stencil tests of which just one number, from one place to ahead of another one, is wrong.
func wrongs(from, to int, numbers []int) []api.Sten {
	var l []api.Sten
	for _, s := range bases() {
		for at := from; at < to; at++ {
			for _, n := range numbers {
				l = append(l, with(s, at, n))
			}
		}
	}
	return l
}

// wrongByKind are stencil tests whose error is ErrKind: in some of them numbers are wrong too.
func wrongByKind() []api.Sten {
	l := wrongs(atFn, firstNumber, wrongKinds())
	for at := atFn; at < firstNumber; at++ {
		for other := firstNumber; other < ends; other++ {
			for _, kind := range []int{-1, 8, least, most} {
				for _, n := range []int{-1, 256, least, most} {
					l = append(l, with(with(Plain(), at, kind), other, n))
				}
			}
		}
	}
	return append(l,
		api.Sten{Fn: -1, Ref: -1, Read: -1, Write: -1, Fail: -1, ZFail: -1, Pass: -1},
		api.Sten{Fn: 8, Ref: 256, Read: 256, Write: 256, Fail: 8, ZFail: 8, Pass: 8},
		// Kinds that would make up for each other if they were only added.
		api.Sten{Fail: -1, ZFail: 1}, api.Sten{ZFail: 8, Pass: -8}, api.Sten{Fn: -1, Pass: 8},
		api.Sten{Fn: least, Ref: least, Read: least, Write: least, Fail: least, ZFail: least, Pass: least},
		api.Sten{Fn: most, Ref: most, Read: most, Write: most, Fail: most, ZFail: most, Pass: most},
	)
}

// wrongByRange are stencil tests whose error is ErrRange.
func wrongByRange() []api.Sten {
	return append(wrongs(firstNumber, ends, wrongStencils()),
		api.Sten{Ref: -1, Read: -1, Write: -1}, api.Sten{Ref: 256, Read: 256, Write: 256},
		api.Sten{Ref: -1, Read: 256}, api.Sten{Ref: 256, Write: -256}, api.Sten{Read: -1, Write: 1},
		api.Sten{Ref: least, Read: most, Write: least}, api.Sten{Ref: most, Read: least, Write: most},
	)
}

// rule tells numbers from 0 to end, by a rule that is the same each time.
func rule(seed uint64) func(end int) int {
	return func(end int) int {
		seed = seed*6364136223846793005 + 1442695040888963407
		return int(seed >> 20 % uint64(end+1))
	}
}

func stenBy(next func(int) int) api.Sten {
	return api.Sten{Fn: next(7), Ref: next(255), Read: next(255), Write: next(255), Fail: next(7), ZFail: next(7), Pass: next(7)}
}

// done is what the chapter says of each deed, word by word.
func done(kind, old, ref int) int {
	switch kind {
	case 0:
		return old
	case 1:
		return 0
	case 2:
		return ref
	case 3:
		if old == 255 {
			return 255
		}
		return old + 1
	case 4:
		if old == 0 {
			return 0
		}
		return old - 1
	case 5:
		return 255 - old
	case 6:
		if old == 255 {
			return 0
		}
		return old + 1
	}
	if old == 0 {
		return 255
	}
	return old - 1
}

// bitsOf has a number's bits, as 0 and 1, the lowest first.
func bitsOf(n int) [8]int {
	var l [8]int
	for i := range l {
		l[i] = n % 2
		n /= 2
	}
	return l
}

// chosen is a number whose bits are those of one where a mask has them, and those of another one where it has not.
func chosen(mask, one, other int) int {
	m, a, b := bitsOf(mask), bitsOf(one), bitsOf(other)
	n, place := 0, 1
	for i := range m {
		if m[i] == 1 {
			n += a[i] * place
		} else {
			n += b[i] * place
		}
		place *= 2
	}
	return n
}

// passes is what layer 8 says of each test, word by word.
func passes(kind, a, b int) bool {
	return [8]bool{false, a < b, a == b, a <= b, a > b, a != b, a >= b, true}[kind]
}

// P9.1

func TestCheckOfWhatMayBe(t *testing.T) {
	for _, s := range bases() {
		for at := range ends {
			count := 8
			if at >= firstNumber {
				count = 256
			}
			for n := range count {
				if s := with(s, at, n); Check(s) != api.OK {
					t.Errorf("Check(%+v) is %d", s, Check(s))
				}
			}
		}
	}
}

func TestCheckOfKindsThatMayNotBe(t *testing.T) {
	for _, s := range wrongByKind() {
		if e := Check(s); e != api.ErrKind {
			t.Errorf("Check(%+v) is %d, want ErrKind", s, e)
		}
	}
}

func TestCheckOfNumbersThatMayNotBe(t *testing.T) {
	for _, s := range wrongByRange() {
		if e := Check(s); e != api.ErrRange {
			t.Errorf("Check(%+v) is %d, want ErrRange", s, e)
		}
	}
}

func TestPlainTold(t *testing.T) {
	if got, want := Plain(), (api.Sten{Fn: 7, Read: 255, Write: 255}); got != want {
		t.Errorf("Plain is %+v, want %+v", got, want)
	}
	if e := Check(Plain()); e != api.OK {
		t.Errorf("Check of Plain is %d", e)
	}
}

// Plain always passes, and changes nothing.
func TestPlainPassesAndKeeps(t *testing.T) {
	for old := range 256 {
		if is, e := Test(Plain(), old); !is || e != api.OK {
			t.Errorf("Plain does not pass %d: %d", old, e)
		}
		for how := range 3 {
			if n, e := Put(Plain(), how, old); n != old || e != api.OK {
				t.Errorf("Plain makes %d of %d, %d", n, old, e)
			}
		}
	}
}

// P9.2

func TestDeedTold(t *testing.T) {
	olds := [4]int{0, 1, 254, 255}
	for kind, want := range [8][4]int{
		{0, 1, 254, 255}, {0, 0, 0, 0}, {77, 77, 77, 77}, {1, 2, 255, 255},
		{0, 0, 253, 254}, {255, 254, 1, 0}, {1, 2, 255, 0}, {255, 0, 253, 254},
	} {
		for i, old := range olds {
			if got, e := Deed(kind, old, 77); got != want[i] || e != api.OK {
				t.Errorf("Deed(%d, %d, 77) is %d, %d, want %d", kind, old, got, e, want[i])
			}
		}
	}
}

func TestDeedOfAllStencils(t *testing.T) {
	for kind := range 8 {
		for old := range 256 {
			for ref := range 256 {
				if got, e := Deed(kind, old, ref); got != done(kind, old, ref) || e != api.OK {
					t.Fatalf("Deed(%d, %d, %d) is %d, %d, want %d", kind, old, ref, got, e, done(kind, old, ref))
				}
			}
		}
	}
}

// ErrKind stands ahead of ErrRange.
func TestDeedThatThereIsNot(t *testing.T) {
	for _, kind := range wrongKinds() {
		for _, old := range []int{0, 7, 255, -1, 256, least, most} {
			for _, ref := range []int{0, 7, 255, -1, 256, least, most} {
				if n, e := Deed(kind, old, ref); n != 0 || e != api.ErrKind {
					t.Errorf("Deed(%d, %d, %d) is %d, %d, want ErrKind", kind, old, ref, n, e)
				}
			}
		}
	}
}

// Both numbers are asked, whichever of them the deed looks at.
func TestDeedOfNumbersThatAreNoStencils(t *testing.T) {
	for kind := range 8 {
		for _, wrong := range wrongStencils() {
			for _, right := range []int{0, 1, 254, 255} {
				for _, pair := range [][2]int{{wrong, right}, {right, wrong}, {wrong, wrong}} {
					if n, e := Deed(kind, pair[0], pair[1]); n != 0 || e != api.ErrRange {
						t.Errorf("Deed(%d, %d, %d) is %d, %d, want ErrRange", kind, pair[0], pair[1], n, e)
					}
				}
			}
		}
	}
}

// P9.3

// What each test says where the bits of Ref that are read are below those of old, the same, and above.
func TestTestTold(t *testing.T) {
	for fn, want := range [8][3]bool{
		{false, false, false}, {true, false, false}, {false, true, false}, {true, true, false},
		{false, false, true}, {true, false, true}, {false, true, true}, {true, true, true},
	} {
		for at, cases := range [3][][3]int{ // Ref, Read, old
			{{4, 255, 5}, {0, 255, 255}, {254, 255, 255}, {0x41, 0x0f, 0x12}, {0xf0, 0x0f, 0x01}, {0x80, 0x7f, 0x01}},
			{{5, 255, 5}, {0, 255, 0}, {255, 255, 255}, {0x35, 0x0f, 0xc5}, {0xc5, 0x0f, 0x35}, {0, 0, 255}, {255, 0, 0}, {5, 4, 6}, {6, 4, 5}, {0x81, 0x80, 0xfe}},
			{{6, 255, 5}, {255, 255, 0}, {255, 255, 254}, {0x12, 0x0f, 0x41}, {0x01, 0x0f, 0xf0}, {0x01, 0x7f, 0x80}},
		} {
			for _, c := range cases {
				s := api.Sten{Fn: fn, Ref: c[0], Read: c[1]}
				if is, e := Test(s, c[2]); is != want[at] || e != api.OK {
					t.Errorf("Test(%+v, %d) is %v, %d, want %v", s, c[2], is, e, want[at])
				}
			}
		}
	}
}

// Where only bits differ that are not read, they are the same: a test passes as it does for numbers that are.
func TestTestOfBitsThatAreNotRead(t *testing.T) {
	same := [8]bool{false, false, true, true, false, false, true, true}
	for fn, want := range same {
		for read := range 256 {
			for _, ref := range []int{0, 1, 0x5a, 0xa5, 254, 255} {
				s := api.Sten{Fn: fn, Ref: ref, Read: read}
				old := chosen(read, ref, 255-ref)
				if is, e := Test(s, old); is != want || e != api.OK {
					t.Errorf("Test(%+v, %d) is %v, %d, want %v", s, old, is, e, want)
				}
			}
		}
	}
}

// All tests, by what is read bit by bit; what is written, and what is done, make no difference.
func TestTestByTheBits(t *testing.T) {
	next := rule(1)
	for range 20000 {
		s, old := stenBy(next), next(255)
		want := passes(s.Fn, chosen(s.Read, s.Ref, 0), chosen(s.Read, old, 0))
		if is, e := Test(s, old); is != want || e != api.OK {
			t.Fatalf("Test(%+v, %d) is %v, %d, want %v", s, old, is, e, want)
		}
		s.Write, s.Fail, s.ZFail, s.Pass = next(255), next(7), next(7), next(7)
		if is, e := Test(s, old); is != want || e != api.OK {
			t.Fatalf("Test(%+v, %d) is %v, %d, want %v", s, old, is, e, want)
		}
	}
}

func TestTestHasTheErrorOfCheckFirst(t *testing.T) {
	for _, old := range []int{0, 1, 255, -1, 256, least, most} {
		for _, s := range wrongByKind() {
			if is, e := Test(s, old); is || e != api.ErrKind {
				t.Errorf("Test(%+v, %d) is %v, %d, want ErrKind", s, old, is, e)
			}
		}
		for _, s := range wrongByRange() {
			if is, e := Test(s, old); is || e != api.ErrRange {
				t.Errorf("Test(%+v, %d) is %v, %d, want ErrRange", s, old, is, e)
			}
		}
	}
}

func TestTestOfNumbersThatAreNoStencils(t *testing.T) {
	for fn := range 8 {
		for _, s := range bases() {
			for _, old := range wrongStencils() {
				if is, e := Test(with(s, atFn, fn), old); is || e != api.ErrRange {
					t.Errorf("Test(%+v, %d) is %v, %d, want ErrRange", with(s, atFn, fn), old, is, e)
				}
			}
		}
	}
}

// P9.4

func TestPutTold(t *testing.T) {
	for _, c := range []struct {
		s              api.Sten
		how, old, want int
	}{
		// The chapter's example.
		{api.Sten{Ref: 15, Write: 10, Fail: 2}, 0, 240, 250},
		{api.Sten{Ref: 15, Write: 10, ZFail: 2}, 1, 240, 250},
		{api.Sten{Ref: 15, Write: 10, Pass: 2}, 2, 240, 250},
		// The deed is the one of its how, and of no other.
		{api.Sten{Ref: 77, Write: 255, Fail: 1, ZFail: 2, Pass: 3}, 0, 9, 0},
		{api.Sten{Ref: 77, Write: 255, Fail: 1, ZFail: 2, Pass: 3}, 1, 9, 77},
		{api.Sten{Ref: 77, Write: 255, Fail: 1, ZFail: 2, Pass: 3}, 2, 9, 10},
		// Nothing is written, all is, some is.
		{api.Sten{Ref: 77, Pass: 2}, 2, 9, 9}, {api.Sten{Ref: 77, Write: 255, Pass: 2}, 2, 9, 77}, {api.Sten{Ref: 77, Write: 64, Pass: 2}, 2, 9, 73},
		{api.Sten{Pass: 1}, 2, 255, 255}, {api.Sten{Write: 255, Pass: 1}, 2, 255, 0}, {api.Sten{Write: 15, Pass: 1}, 2, 255, 240}, {api.Sten{Write: 240, Pass: 1}, 2, 255, 15},
		// The deed is done on all of old; then the bits are chosen.
		{api.Sten{Write: 15, Pass: 3}, 2, 15, 0}, {api.Sten{Write: 240, Pass: 3}, 2, 15, 31}, {api.Sten{Write: 15, Pass: 4}, 2, 16, 31}, {api.Sten{Write: 240, Pass: 4}, 2, 16, 0},
		{api.Sten{Write: 1, Pass: 3}, 2, 255, 255}, {api.Sten{Write: 1, Pass: 4}, 2, 0, 0}, {api.Sten{Write: 1, Pass: 6}, 2, 255, 254}, {api.Sten{Write: 128, Pass: 7}, 2, 0, 128},
		{api.Sten{Write: 85, Pass: 5}, 2, 255, 170}, {api.Sten{Write: 85, Pass: 5}, 2, 0, 85},
		// Ref is taken as it is, not as it is read; whether the test passes makes no difference.
		{api.Sten{Ref: 255, Read: 0, Write: 255, Pass: 2}, 2, 0, 255}, {api.Sten{Fn: 0, Ref: 3, Read: 255, Write: 255, Pass: 2}, 2, 8, 3}, {api.Sten{Fn: 7, Ref: 3, Read: 255, Write: 255, Fail: 2}, 0, 8, 3},
	} {
		if got, e := Put(c.s, c.how, c.old); got != c.want || e != api.OK {
			t.Errorf("Put(%+v, %d, %d) is %d, %d, want %d", c.s, c.how, c.old, got, e, c.want)
		}
	}
}

// Each how, with each deed, at the edges, by the bits that are written.
func TestPutByTheBits(t *testing.T) {
	next := rule(2)
	for how := range 3 {
		for kind := range 8 {
			for write := range 256 {
				for _, old := range []int{0, 1, 254, 255, next(255), next(255)} {
					s := with(with(stenBy(next), atFail+how, kind), atWrite, write)
					want := chosen(write, done(kind, old, s.Ref), old)
					if got, e := Put(s, how, old); got != want || e != api.OK {
						t.Fatalf("Put(%+v, %d, %d) is %d, %d, want %d", s, how, old, got, e, want)
					}
				}
			}
		}
	}
}

func TestPutHasTheErrorOfCheckFirst(t *testing.T) {
	for _, how := range []int{0, 1, 2, -1, 3, least, most} {
		for _, old := range []int{0, 255, -1, 256, least, most} {
			for _, s := range wrongByKind() {
				if n, e := Put(s, how, old); n != 0 || e != api.ErrKind {
					t.Errorf("Put(%+v, %d, %d) is %d, %d, want ErrKind", s, how, old, n, e)
				}
			}
			for _, s := range wrongByRange() {
				if n, e := Put(s, how, old); n != 0 || e != api.ErrRange {
					t.Errorf("Put(%+v, %d, %d) is %d, %d, want ErrRange", s, how, old, n, e)
				}
			}
		}
	}
}

// ErrArg stands ahead of ErrRange of old.
func TestPutOfNoHow(t *testing.T) {
	for _, s := range bases() {
		for _, how := range []int{-1, 3, -2, -3, 4, 7, 8, 255, 256, 1 << 32, 1<<32 + 1, -1 << 32, -1<<32 + 2, 1 << 62, least, least + 1, least + 2, most - 1, most} {
			for _, old := range []int{0, 1, 255, -1, 256, least, most} {
				if n, e := Put(s, how, old); n != 0 || e != api.ErrArg {
					t.Errorf("Put(%+v, %d, %d) is %d, %d, want ErrArg", s, how, old, n, e)
				}
			}
		}
	}
}

func TestPutOfNumbersThatAreNoStencils(t *testing.T) {
	for how := range 3 {
		for kind := range 8 {
			for _, s := range bases() {
				for _, old := range wrongStencils() {
					s := with(s, atFail+how, kind)
					if n, e := Put(s, how, old); n != 0 || e != api.ErrRange {
						t.Errorf("Put(%+v, %d, %d) is %d, %d, want ErrRange", s, how, old, n, e)
					}
				}
			}
		}
	}
}
