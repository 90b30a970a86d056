package depth

import (
	"math"
	"testing"

	"tempera/api"
)

const most, least = math.MaxInt, math.MinInt

// passes is what the chapter says of each test, word by word.
func passes(kind, a, b int) bool {
	switch kind {
	case 0:
		return false
	case 1:
		return a < b
	case 2:
		return a == b
	case 3:
		return a <= b
	case 4:
		return a > b
	case 5:
		return a != b
	case 6:
		return a >= b
	}
	return true
}

// edges are numbers of which some are far apart (what is left of two is no int), and some differ by high bits alone.
func edges() []int {
	return []int{
		0, 1, -1, 2, -2, 7, 8, -8, 255, 256, api.MaxDepth - 1, api.MaxDepth, api.MaxDepth + 1,
		1 << 31, 1<<31 - 1, -1 << 31, 1 << 32, 1<<32 + 1, -1 << 32, 1 << 53, 1<<53 + 1,
		1 << 62, -1 << 62, least, least + 1, most - 1, most,
	}
}

// wrongKinds are kinds of no test, some of which would be one if their higher bits, or their sign, were lost.
func wrongKinds() []int {
	return []int{
		-1, 8, -2, -7, -8, -9, 9, 10, 15, 16, 255, 256, 1 << 16, -1 << 16, 1<<31 + 1, 1 << 32, 1<<32 + 7, -1 << 32, -1<<32 + 1,
		1 << 62, least, least + 1, least + 7, most - 1, most,
	}
}

// P8.1

// What each test says where a is below b, the same, and above it.
func TestPassesTold(t *testing.T) {
	for kind, want := range [8][3]bool{
		{false, false, false}, {true, false, false}, {false, true, false}, {true, true, false},
		{false, false, true}, {true, false, true}, {false, true, true}, {true, true, true},
	} {
		for at, pairs := range [3][][2]int{
			{{4, 5}, {-1, 0}, {-1, 1}, {0, api.MaxDepth}, {least, least + 1}, {most - 1, most}, {least, most}, {least, 0}, {0, most}, {-2, most}, {least, 1}},
			{{5, 5}, {0, 0}, {-1, -1}, {api.MaxDepth, api.MaxDepth}, {least, least}, {most, most}},
			{{6, 5}, {0, -1}, {1, -1}, {api.MaxDepth, 0}, {least + 1, least}, {most, most - 1}, {most, least}, {0, least}, {most, 0}, {most, -2}, {1, least}},
		} {
			for _, p := range pairs {
				if got, e := Passes(kind, p[0], p[1]); got != want[at] || e != api.OK {
					t.Errorf("Passes(%d, %d, %d) is %v, %d, want %v", kind, p[0], p[1], got, e, want[at])
				}
			}
		}
	}
}

func TestPassesAtTheEdges(t *testing.T) {
	for kind := range 8 {
		for _, a := range edges() {
			for _, b := range edges() {
				if got, e := Passes(kind, a, b); got != passes(kind, a, b) || e != api.OK {
					t.Errorf("Passes(%d, %d, %d) is %v, %d", kind, a, b, got, e)
				}
			}
		}
	}
}

func TestPassesOfNoTest(t *testing.T) {
	for _, kind := range wrongKinds() {
		for _, p := range [][2]int{{0, 0}, {4, 5}, {5, 5}, {6, 5}, {least, most}, {most, least}, {most, most}} {
			if got, e := Passes(kind, p[0], p[1]); got || e != api.ErrKind {
				t.Errorf("Passes(%d, %d, %d) is %v, %d, want ErrKind", kind, p[0], p[1], got, e)
			}
		}
	}
}

// P8.2

// The chapter's example: Not of 1 is 6, Swap of 1 is 4.
func TestNotAndSwapTold(t *testing.T) {
	nots := [8]int{7, 6, 5, 4, 3, 2, 1, 0}
	swaps := [8]int{0, 4, 2, 6, 1, 5, 3, 7}
	for kind := range 8 {
		if got, e := Not(kind); got != nots[kind] || e != api.OK {
			t.Errorf("Not(%d) is %d, %d, want %d", kind, got, e, nots[kind])
		}
		if got, e := Swap(kind); got != swaps[kind] || e != api.OK {
			t.Errorf("Swap(%d) is %d, %d, want %d", kind, got, e, swaps[kind])
		}
	}
}

// holdPasses tells what Passes answers of a test that there is.
func holdPasses(t *testing.T, kind, a, b int) bool {
	t.Helper()
	is, e := Passes(kind, a, b)
	if e != api.OK {
		t.Errorf("Passes(%d, %d, %d) has the error %d", kind, a, b, e)
	}
	return is
}

func TestNotPassesJustWhereTheTestDoesNot(t *testing.T) {
	for kind := range 8 {
		not, e := Not(kind)
		if e != api.OK {
			t.Errorf("Not(%d) has the error %d", kind, e)
		}
		for _, a := range edges() {
			for _, b := range edges() {
				if holdPasses(t, not, a, b) == holdPasses(t, kind, a, b) {
					t.Errorf("%d and its other one, %d, agree on %d against %d", kind, not, a, b)
				}
			}
		}
	}
}

func TestSwapPassesTheOtherWayRound(t *testing.T) {
	for kind := range 8 {
		swapped, e := Swap(kind)
		if e != api.OK {
			t.Errorf("Swap(%d) has the error %d", kind, e)
		}
		for _, a := range edges() {
			for _, b := range edges() {
				if holdPasses(t, swapped, a, b) != holdPasses(t, kind, b, a) {
					t.Errorf("%d of %d against %d is not %d the other way round", swapped, a, b, kind)
				}
			}
		}
	}
}

func TestNotAndSwapOfNoTest(t *testing.T) {
	for _, kind := range wrongKinds() {
		if got, e := Not(kind); got != 0 || e != api.ErrKind {
			t.Errorf("Not(%d) is %d, %d, want ErrKind", kind, got, e)
		}
		if got, e := Swap(kind); got != 0 || e != api.ErrKind {
			t.Errorf("Swap(%d) is %d, %d, want ErrKind", kind, got, e)
		}
	}
}

// P8.3

func TestTestTold(t *testing.T) {
	for _, c := range []struct {
		kind   int
		put    bool
		z, old int
		is     bool
		stands int
	}{
		{0, true, 3, 9, false, 9}, {0, false, 3, 9, false, 9}, {0, true, 9, 9, false, 9}, {0, true, 9, 3, false, 3},
		{1, true, 3, 9, true, 3}, {1, false, 3, 9, true, 9}, {1, true, 9, 9, false, 9}, {1, true, 9, 3, false, 3}, {1, false, 9, 3, false, 3},
		{2, true, 9, 9, true, 9}, {2, false, 9, 9, true, 9}, {2, true, 3, 9, false, 9}, {2, false, 9, 3, false, 3},
		{3, true, 3, 9, true, 3}, {3, false, 3, 9, true, 9}, {3, true, 9, 9, true, 9}, {3, true, 9, 3, false, 3}, {3, false, 9, 3, false, 3},
		{4, true, 9, 3, true, 9}, {4, false, 9, 3, true, 3}, {4, true, 9, 9, false, 9}, {4, true, 3, 9, false, 9}, {4, false, 3, 9, false, 9},
		{5, true, 3, 9, true, 3}, {5, false, 3, 9, true, 9}, {5, true, 9, 3, true, 9}, {5, true, 9, 9, false, 9}, {5, false, 9, 9, false, 9},
		{6, true, 9, 3, true, 9}, {6, false, 9, 3, true, 3}, {6, true, 9, 9, true, 9}, {6, true, 3, 9, false, 9}, {6, false, 3, 9, false, 9},
		{7, true, 3, 9, true, 3}, {7, false, 3, 9, true, 9}, {7, true, 9, 3, true, 9}, {7, false, 9, 3, true, 3},
		{1, true, least, most, true, least}, {1, false, least, most, true, most}, {4, true, least, most, false, most}, {7, true, most, least, true, most},
	} {
		if is, stands, e := Test(c.kind, c.put, c.z, c.old); is != c.is || stands != c.stands || e != api.OK {
			t.Errorf("Test(%d, %v, %d, %d) is %v, %d, %d, want %v, %d", c.kind, c.put, c.z, c.old, is, stands, e, c.is, c.stands)
		}
	}
}

func TestTestAtTheEdges(t *testing.T) {
	for kind := range 8 {
		for _, z := range edges() {
			for _, old := range edges() {
				for _, put := range []bool{false, true} {
					want := old
					if put && passes(kind, z, old) {
						want = z
					}
					if is, stands, e := Test(kind, put, z, old); is != passes(kind, z, old) || stands != want || e != api.OK {
						t.Errorf("Test(%d, %v, %d, %d) is %v, %d, %d, want %d", kind, put, z, old, is, stands, e, want)
					}
				}
			}
		}
	}
}

func TestTestOfNoTest(t *testing.T) {
	for _, kind := range wrongKinds() {
		for _, put := range []bool{false, true} {
			for _, p := range [][2]int{{3, 9}, {9, 9}, {9, 3}, {least, most}, {most, least}, {-1, -1}} {
				if is, stands, e := Test(kind, put, p[0], p[1]); is || stands != 0 || e != api.ErrKind {
					t.Errorf("Test(%d, %v, %d, %d) is %v, %d, %d, want ErrKind", kind, put, p[0], p[1], is, stands, e)
				}
			}
		}
	}
}
