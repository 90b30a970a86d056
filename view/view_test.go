package view

import (
	"math"
	"math/big"
	"slices"
	"testing"

	"tempera/api"
)

const most, least = math.MaxInt, math.MinInt

const (
	// side is the greatest side of a viewport, and the greatest amount of its place.
	side = 4096
	// end is the greatest amount of a number of a corner's place.
	end = 1 << 30
	// over is the greatest amount of a number of A.
	over = 1 << 20
	// far is the greatest amount of a place on the screen.
	far = 1 << 19
	// deep is the greatest depth.
	deep = 65535
)

// at is a corner, by its place and by the first ones of A.
func at(x, y, z, w int, a ...int) api.Corner {
	c := api.Corner{P: api.Vec{X: x, Y: y, Z: z, W: w}}
	copy(c.A[:], a)
	return c
}

// with is a corner, one of whose ten numbers (X, Y, Z, W, and those of A) is another one.
func with(c api.Corner, i, n int) api.Corner {
	switch i {
	case 0:
		c.P.X = n
	case 1:
		c.P.Y = n
	case 2:
		c.P.Z = n
	case 3:
		c.P.W = n
	default:
		c.A[i-4] = n
	}
	return c
}

// bound is the greatest amount of a corner's number, by its place among the ten.
func bound(i int) int {
	if i < 4 {
		return end
	}
	return over
}

// to is a spot, by its place on the screen, its depth, and the first ones of A.
func to(x, y, z int, a ...int) api.Spot {
	s := api.Spot{P: api.Point{X: x, Y: y}, Z: z}
	copy(s.A[:], a)
	return s
}

// port is a viewport from x, y, of w by h.
func port(x, y, w, h int) api.Rect {
	return api.Rect{X0: x, Y0: y, X1: x + w, Y1: y + h}
}

// ports are viewports that may be: little ones, empty ones, those on both sides of 0, and those whose place or sides are at their bounds.
func ports() []api.Rect {
	l := []api.Rect{{}, port(10, 20, 40, 20), port(-7, -9, 5, 33), port(3, 0, 0, 7), port(0, -3, 7, 0), port(1, 2, 1, 1), port(-2048, -2048, side, side)}
	for _, x := range []int{-side, 0, side} {
		for _, y := range []int{-side, 1, side} {
			l = append(l, port(x, y, side, side), port(x, y, 0, side), port(x, y, side, 1), port(x, y, 255, 0))
		}
	}
	return l
}

// beyond are numbers beyond an amount, some of which would not be if their higher bits, or their sign, were lost.
func beyond(amount int) []int {
	return []int{
		amount + 1, -amount - 1, amount + 2, -amount - 2, 2 * amount, -2 * amount, 1 << 32, 1<<32 + 1, -1 << 32, -1<<32 - 1, 1 << 60, 1 << 61, 1 << 62, -1 << 62, 1<<62 + 1,
		least, least + 1, least + amount, most - amount, most - 1, most,
	}
}

// wrongSides are numbers that are no side of a viewport, some of which would be if their higher bits, or their sign, were lost.
func wrongSides() []int {
	return []int{-1, -2, -side, -side - 1, side + 1, side + 2, 2 * side, 1 << 16, 1<<16 + 1, -1 << 32, 1 << 32, 1<<32 + 7, 1 << 61, 1 << 62, -1 << 62}
}

// wrongPorts are viewports that may not be: for their place, for a side, for both, and for sides that are no int.
func wrongPorts() []api.Rect {
	var l []api.Rect
	for _, n := range beyond(side) {
		// Their sides wrap round where their place is next to an int's end: what ends where it begins has a side of 0.
		l = append(l, port(n, 0, 0, 9), port(0, n, 9, 0), port(n, n, 0, 0), port(n, 0, 40, 20), port(0, n, 40, 20), port(n, n, 40, 20), api.Rect{X0: n}, api.Rect{Y0: n})
	}
	for _, n := range wrongSides() {
		for _, at := range []int{-side, -1, 0, 1, side} {
			l = append(l, port(at, 0, n, 9), port(0, at, 9, n), port(at, at, n, n), port(at, at, n, 0), port(at, at, 0, n), port(at, at, side, n), port(at, at, n, side))
		}
	}
	// Where what is beyond an int comes round to what may be.
	for _, n := range []int{least, least + 1, least + side, most - side, most - 1, most} {
		for _, at := range []int{-side, -1, 0, 1, side} {
			l = append(l, api.Rect{X0: at, X1: n}, api.Rect{Y0: at, Y1: n}, api.Rect{X0: at, Y0: at, X1: n, Y1: n})
		}
	}
	for _, p := range [][2]int{{least, most}, {most, least}, {most, least + 1}, {most - 1, least}, {most, least + side - 1}} {
		l = append(l, api.Rect{X0: p[0], X1: p[1]}, api.Rect{Y0: p[0], Y1: p[1]})
	}
	return l
}

// wrongCorners are corners that have no spot: for one number each, for W beside its bounds, and for all.
func wrongCorners() []api.Corner {
	var l []api.Corner
	for i := range 10 {
		for _, n := range beyond(bound(i)) {
			l = append(l, with(at(0, 0, 0, 256), i, n), with(at(end, -end, end, end, over, -over), i, n), with(at(-1, 2, 3, 1, 9), i, n), with(api.Corner{}, i, n))
		}
	}
	for _, w := range []int{0, -1, -2, -256, 1 - end, -end} {
		l = append(l, at(0, 0, 0, w), at(1, 2, 3, w, 4), at(w, w, w, w), at(-w, -w, -w, w), at(end, -end, end, w, over))
	}
	for _, n := range []int{least, most, end + 1, -end - 1} {
		l = append(l, at(n, n, n, n, n, n, n, n, n, n), at(n, -n, n, n))
	}
	return l
}

// atBounds are corners that have a spot, with a number that is as great as it may be, or next to it.
func atBounds() []api.Corner {
	l := []api.Corner{at(0, 0, 0, 1), at(0, 0, 0, 2), at(0, 0, 0, end), at(0, 0, 0, end-1), at(1, 1, 1, 1), at(-1, -1, -1, 1)}
	for i := range 10 {
		for _, n := range []int{bound(i), bound(i) - 1, -bound(i), 1 - bound(i)} {
			for _, w := range []int{1, 256, end} {
				if c := with(at(0, 0, 0, w), i, n); c.P.W > 0 {
					l = append(l, c)
				}
			}
		}
	}
	for i := range 1 << 3 {
		sign := func(bit int) int { return 1 - i>>bit%2*2 }
		for _, w := range []int{1, 65535, 1 << 26, end} {
			l = append(l, at(sign(0)*end, sign(1)*end, sign(2)*end, w, over, -over, over, -over, over, -over))
		}
	}
	return l
}

// ruled makes a row of numbers of an amount, by a rule that is the same each time.
func ruled(from uint64) func(amount int) int {
	return func(amount int) int {
		from = from*6364136223846793005 + 1442695040888963407
		return int((from>>20)%uint64(2*amount+1)) - amount
	}
}

// corners are many corners that have a spot, of small numbers and of great ones, within a viewport and beside it.
func corners() []api.Corner {
	l := atBounds()
	for i, w := range []int{1, 2, 3, 7, 8, 256, 257, 4095, 65535, 1<<20 + 1, 1 << 26, end - 1, end} {
		number := ruled(uint64(i))
		for _, amount := range []int{w, 4 * w, 40 * w, end} {
			amount = min(amount, end)
			for range 12 {
				c := at(number(amount), number(amount), number(amount), w)
				for j := range c.A {
					c.A[j] = number(over)
				}
				l = append(l, c)
			}
		}
	}
	return l
}

// below is the greatest whole number that is not above n times m by d, and more, together, without a bound; held from lo to hi.
func below(n, m, d, more, lo, hi int) int {
	by := big.NewInt(int64(d))
	sum := new(big.Int).Mul(big.NewInt(int64(n)), big.NewInt(int64(m)))
	sum.Add(sum, new(big.Int).Mul(big.NewInt(int64(more)), by))
	// Euclidean, which is downwards where what divides is above 0.
	sum.Div(sum, by)
	if sum.Cmp(big.NewInt(int64(lo))) < 0 {
		return lo
	}
	if sum.Cmp(big.NewInt(int64(hi))) > 0 {
		return hi
	}
	return int(sum.Int64())
}

// told is a corner's spot, by the chapter's words, without a bound.
func told(c api.Corner, v api.Rect) api.Spot {
	w, h := v.X1-v.X0, v.Y1-v.Y0
	return to(
		below(c.P.X+c.P.W, 8*w, c.P.W, 16*v.X0, -far, far),
		below(c.P.W-c.P.Y, 8*h, c.P.W, 16*v.Y0, -far, far),
		below(c.P.Z+c.P.W, deep, 2*c.P.W, 0, 0, deep),
		c.A[:]...,
	)
}

// snap asks Snap of what may be.
func snap(t *testing.T, c api.Corner, v api.Rect) api.Spot {
	t.Helper()
	s, e := Snap(c, v)
	if e != api.OK {
		t.Fatalf("Snap(%v, %v) has the error %d", c, v, e)
	}
	return s
}

// poly asks Poly of what may be.
func poly(t *testing.T, l []api.Corner, v api.Rect) []api.Spot {
	t.Helper()
	spots, e := Poly(l, v)
	if e != api.OK {
		t.Fatalf("Poly(%v, %v) has the error %d", l, v, e)
	}
	return spots
}

// P16.1

func TestViewportsThatMayBe(t *testing.T) {
	l := ports()
	for _, at := range []int{-side, 1 - side, -1, 0, 1, side - 1, side} {
		for _, n := range []int{0, 1, 2, side - 1, side} {
			l = append(l, port(at, 0, n, 9), port(0, at, 9, n), port(at, at, n, n), port(at, -at, n, side-n))
		}
	}
	for _, v := range l {
		if e := Check(v); e != api.OK {
			t.Errorf("Check(%v) is %d", v, e)
		}
	}
}

func TestViewportsThatMayNotBe(t *testing.T) {
	for _, v := range wrongPorts() {
		if e := Check(v); e != api.ErrView {
			t.Errorf("Check(%v) is %d", v, e)
		}
	}
}

// One number after the other, just at its bounds, and one beyond each.
func TestCheckAtEachBound(t *testing.T) {
	for _, c := range []struct {
		v    api.Rect
		want api.Errno
	}{
		{port(-4096, 0, 9, 9), api.OK}, {port(-4097, 0, 9, 9), api.ErrView}, {port(4096, 0, 9, 9), api.OK}, {port(4097, 0, 9, 9), api.ErrView},
		{port(0, -4096, 9, 9), api.OK}, {port(0, -4097, 9, 9), api.ErrView}, {port(0, 4096, 9, 9), api.OK}, {port(0, 4097, 9, 9), api.ErrView},
		{port(5, 7, -1, 9), api.ErrView}, {port(5, 7, 0, 9), api.OK}, {port(5, 7, 1, 9), api.OK}, {port(5, 7, 4096, 9), api.OK}, {port(5, 7, 4097, 9), api.ErrView},
		{port(5, 7, 9, -1), api.ErrView}, {port(5, 7, 9, 0), api.OK}, {port(5, 7, 9, 1), api.OK}, {port(5, 7, 9, 4096), api.OK}, {port(5, 7, 9, 4097), api.ErrView},
		// It ends beyond where it may begin.
		{api.Rect{X0: 4096, Y0: 4096, X1: 8192, Y1: 8192}, api.OK}, {api.Rect{X0: -4096, Y0: -4096}, api.OK},
		{api.Rect{X0: 4096, X1: 8193}, api.ErrView}, {api.Rect{X0: -4096, X1: 1}, api.ErrView}, {api.Rect{X0: -4096, X1: -4097}, api.ErrView},
		{api.Rect{Y0: 4096, Y1: 8193}, api.ErrView}, {api.Rect{Y0: -4096, Y1: 1}, api.ErrView}, {api.Rect{Y0: -4096, Y1: -4097}, api.ErrView},
		// Two sides that make up for each other.
		{port(5, 7, -1, 1), api.ErrView}, {port(5, 7, -3, -3), api.ErrView}, {port(-4097, 4097, 1, 1), api.ErrView},
	} {
		if e := Check(c.v); e != c.want {
			t.Errorf("Check(%v) is %d, want %d", c.v, e, c.want)
		}
	}
}

// P16.2

func TestSpotsTold(t *testing.T) {
	v := port(10, 20, 40, 20)
	for _, c := range []struct {
		c    api.Corner
		v    api.Rect
		want api.Spot
	}{
		// The chapter's example, and the one of the whole.
		{at(0, 0, 0, 256), v, to(480, 480, 32767)}, {at(0, 0, 0, 1), v, to(480, 480, 32767)}, {at(0, 0, 0, end), v, to(480, 480, 32767)},
		// In the viewport's corners: Y goes upwards in clip space, and downwards on the screen.
		{at(-256, 256, -256, 256), v, to(160, 320, 0)}, {at(256, 256, 256, 256), v, to(800, 320, deep)}, {at(-256, -256, 0, 256), v, to(160, 640, 32767)}, {at(256, -256, 0, 256), v, to(800, 640, 32767)},
		// On each border, not in its middle.
		{at(-256, 128, 0, 256), v, to(160, 400, 32767)}, {at(256, -128, 0, 256), v, to(800, 560, 32767)}, {at(64, 256, 0, 256), v, to(560, 320, 32767)}, {at(-64, -256, 0, 256), v, to(400, 640, 32767)},
		// Beside it, in each direction.
		{at(-512, 0, 0, 256), v, to(-160, 480, 32767)}, {at(512, 0, 0, 256), v, to(1120, 480, 32767)}, {at(0, 512, 0, 256), v, to(480, 160, 32767)}, {at(0, -512, 0, 256), v, to(480, 800, 32767)},
		// A stays as it is, each number in its place, below 0 and at its bounds too.
		{at(0, 0, 0, 256, 1, 2, 3, 4, 5, 6), v, to(480, 480, 32767, 1, 2, 3, 4, 5, 6)}, {at(0, 0, 0, 7, over, -over, -1, 0, 1-over, 255), v, to(480, 480, 32767, over, -over, -1, 0, 1-over, 255)},
		// In a viewport without a column, without a row, without both.
		{at(100, 100, 0, 256), port(3, 4, 0, 8), to(48, 103, 32767)}, {at(100, 100, 0, 256), port(3, 4, 8, 0), to(137, 64, 32767)}, {at(-end, end, end, 1), port(-3, -4, 0, 0), to(-48, -64, deep)},
		// In a viewport that begins, or that lies, left of 0 and above it.
		{at(0, 0, 0, 256), port(-7, -9, 5, 33), to(-72, 120, 32767)}, {at(1, 1, 0, 256), port(-side, -side, 1, 1), to(-65528, -65529, 32767)}, {at(0, 0, 0, 3), port(side, side, side, side), to(98304, 98304, 32767)},
	} {
		if s := snap(t, c.c, c.v); s != c.want {
			t.Errorf("Snap(%v, %v) is %v, want %v", c.c, c.v, s, c.want)
		}
	}
}

// Half of a step, a step, and one and a half, to both sides of a viewport's begin: cut downwards, not towards 0, nor to the nearest one.
func TestPlacesAreCutDownwards(t *testing.T) {
	for _, c := range []struct{ n, w, side, want int }{
		// 8 parts of the way's 16 by W: of 16, each number is half of a part.
		{0, 16, 1, 0}, {1, 16, 1, 0}, {2, 16, 1, 1}, {3, 16, 1, 1}, {4, 16, 1, 2}, {-1, 16, 1, -1}, {-2, 16, 1, -1}, {-3, 16, 1, -2}, {-4, 16, 1, -2},
		// Of 8, each is a part.
		{-9, 8, 1, -9}, {-1, 8, 1, -1}, {1, 8, 1, 1}, {9, 8, 1, 9},
		// Just before a step, on it, and just behind it: of 8000, a step is 1000.
		{999, 8000, 1, 0}, {1000, 8000, 1, 1}, {1001, 8000, 1, 1}, {1999, 8000, 1, 1}, {2000, 8000, 1, 2}, {15999, 8000, 1, 15}, {16000, 8000, 1, 16}, {16001, 8000, 1, 16},
		{-999, 8000, 1, -1}, {-1000, 8000, 1, -1}, {-1001, 8000, 1, -2}, {-1999, 8000, 1, -2}, {-2000, 8000, 1, -2}, {-2001, 8000, 1, -3},
		// Of the greatest W: next to nothing, and next to all.
		{1, end, side, 0}, {1<<15 - 1, end, side, 0}, {1 << 15, end, side, 1}, {-1, end / 2, side, -1}, {-1 << 14, end / 2, side, -1}, {-1<<14 - 1, end / 2, side, -2}, {2*end - 1, end, side, 65535}, {2 * end, end, side, 65536},
		// A third, and two thirds, of one part and more.
		{1, 3, 1, 2}, {2, 3, 1, 5}, {-1, 3, 1, -3}, {-2, 3, 1, -6}, {1, 24, 1, 0}, {2, 24, 1, 0}, {-1, 24, 1, -1}, {-2, 24, 1, -1},
	} {
		for _, from := range []int{0, 1, -1, 77, -side, side} {
			// So far from the viewport's begin, in X, and in Y.
			x, y := at(c.n-c.w, 0, 0, c.w), at(0, c.w-c.n, 0, c.w)
			if s := snap(t, x, port(from, 5, c.side, 7)); s.P.X != 16*from+c.want {
				t.Errorf("Snap of %v, from %d, of %d, has the X %d, want %d", x, from, c.side, s.P.X, 16*from+c.want)
			}
			if s := snap(t, y, port(5, from, 7, c.side)); s.P.Y != 16*from+c.want {
				t.Errorf("Snap of %v, from %d, of %d, has the Y %d, want %d", y, from, c.side, s.P.Y, 16*from+c.want)
			}
		}
	}
}

func TestDepthsAreCutDownwards(t *testing.T) {
	for _, c := range []struct{ z, w, want int }{
		{0, 1, 32767}, {0, end, 32767}, {1, 1, deep}, {-1, 1, 0}, {1, 2, 49151}, {-1, 2, 16383}, {end, end, deep}, {end - 1, end, deep - 1}, {-end, end, 0}, {1 - end, end, 0},
		// Of 65535, each number is half of a depth; of twice that, a quarter.
		{-65535, 65535, 0}, {-65534, 65535, 0}, {-65533, 65535, 1}, {-1, 65535, 32767}, {1, 65535, 32768}, {65533, 65535, 65534}, {65534, 65535, 65534}, {65535, 65535, deep},
		{-131067, 131070, 0}, {-131066, 131070, 1}, {-131065, 131070, 1}, {131069, 131070, 65534},
	} {
		if s := snap(t, at(7, 9, c.z, c.w), port(1, 2, 3, 4)); s.Z != c.want {
			t.Errorf("Snap of Z %d, W %d has the depth %d, want %d", c.z, c.w, s.Z, c.want)
		}
	}
}

// Just within, just at, and just beyond where they are held, and as far as there is; each number is held for itself.
func TestPlacesAreHeld(t *testing.T) {
	const w = 1 << 15
	for _, c := range []struct{ n, w, from, want int }{
		// In a viewport of 4096 each number of W 2^15 is a part.
		{far - 1, w, 0, far - 1}, {far, w, 0, far}, {far + 1, w, 0, far}, {far + 2, w, 0, far}, {2 * far, w, 0, far}, {-far + 1, w, 0, -far + 1}, {-far, w, 0, -far}, {-far - 1, w, 0, -far}, {-far - 2, w, 0, -far}, {-2 * far, w, 0, -far},
		// Where the viewport begins is held with it.
		{far - 1 - 65536, w, side, far - 1}, {far - 65536, w, side, far}, {far + 1 - 65536, w, side, far}, {far, w, side, far}, {far, w, -side, far - 65536}, {far + 65535, w, -side, far - 1}, {far + 65536, w, -side, far}, {far + 65537, w, -side, far},
		{65537 - far, w, -side, 1 - far}, {65536 - far, w, -side, -far}, {65535 - far, w, -side, -far}, {-far, w, -side, -far}, {-far, w, side, 65536 - far}, {-far - 65535, w, side, 1 - far}, {-far - 65536, w, side, -far}, {-far - 65537, w, side, -far},
		// Half of a part beside: cut downwards first, and then held.
		{2*far + 1, 2 * w, 0, far}, {2*far - 1, 2 * w, 0, far - 1}, {-2*far - 1, 2 * w, 0, -far}, {-2*far + 1, 2 * w, 0, -far}, {-2*far + 2, 2 * w, 0, 1 - far},
		// As far as there is.
		{end, 1, 0, far}, {1 - end, 1, 0, -far}, {end, 1, -side, far}, {1 - end, 1, side, -far}, {end, 255, 3, far}, {255 - end, 255, 3, -far},
	} {
		x, y := at(c.n-c.w, 0, 0, c.w, 1, 2), at(0, c.w-c.n, 0, c.w, 1, 2)
		if s := snap(t, x, port(c.from, 5, side, 2)); s != to(c.want, 96, 32767, 1, 2) {
			t.Errorf("Snap of %v, from %d, is %v, want the X %d", x, c.from, s, c.want)
		}
		if s := snap(t, y, port(5, c.from, 2, side)); s != to(96, c.want, 32767, 1, 2) {
			t.Errorf("Snap of %v, from %d, is %v, want the Y %d", y, c.from, s, c.want)
		}
	}
}

func TestDepthsAreHeld(t *testing.T) {
	for _, c := range []struct{ z, w, want int }{
		{65536, 65535, deep}, {65537, 65535, deep}, {65538, 65535, deep}, {-65536, 65535, 0}, {-65537, 65535, 0}, {-65538, 65535, 0}, {2, 1, deep}, {-2, 1, 0}, {3, 1, deep}, {-3, 1, 0},
		{end, 1, deep}, {-end, 1, 0}, {end, end - 1, deep}, {-end, end - 1, 0}, {end, 65535, deep}, {-end, 65535, 0},
	} {
		if s := snap(t, at(0, 0, c.z, c.w, -5), port(10, 20, 40, 20)); s != to(480, 480, c.want, -5) {
			t.Errorf("Snap of Z %d, W %d is %v, want the depth %d", c.z, c.w, s, c.want)
		}
	}
}

// The viewport's own corners, borders and middle, whatever W is.
func TestSpotsOfTheViewport(t *testing.T) {
	for _, v := range ports() {
		for _, w := range []int{1, 2, 3, 255, 256, 65537, end - 1, end} {
			for _, c := range []struct{ x, y int }{{-1, -1}, {0, -1}, {1, -1}, {-1, 0}, {0, 0}, {1, 0}, {-1, 1}, {0, 1}, {1, 1}} {
				want := to(8*(v.X0+v.X1)+c.x*8*(v.X1-v.X0), 8*(v.Y0+v.Y1)-c.y*8*(v.Y1-v.Y0), []int{0, 32767, deep}[c.x+1])
				if s := snap(t, at(c.x*w, c.y*w, c.x*w, w), v); s != want {
					t.Errorf("Snap of %d, %d, of W %d, in %v is %v, want %v", c.x, c.y, w, v, s, want)
				}
			}
		}
	}
}

// Held against quotients without a bound, one by one and as a polygon.
func TestSpotsOfMany(t *testing.T) {
	l := corners()
	for _, v := range ports() {
		spots := poly(t, l, v)
		if len(spots) != len(l) {
			t.Fatalf("Poly of %d corners in %v is %d spots", len(l), v, len(spots))
		}
		for i, c := range l {
			want := told(c, v)
			if s := snap(t, c, v); s != want {
				t.Fatalf("Snap(%v, %v) is %v, want %v", c, v, s, want)
			}
			if spots[i] != want {
				t.Fatalf("Poly's spot %d, of %v in %v, is %v, want %v", i, c, v, spots[i], want)
			}
		}
	}
}

// In order, each as often as it comes; there may be more of them than a polygon has that is cut off.
func TestPolygonsInOrder(t *testing.T) {
	v := port(10, 20, 40, 20)
	for many := range 40 {
		var l []api.Corner
		var want []api.Spot
		for i := range many {
			n := i * 11 % 16
			l = append(l, at(n*16, -n*16, 0, 256, n))
			want = append(want, to(480+20*n, 480+10*n, 32767, n))
		}
		if spots := poly(t, l, v); !slices.Equal(spots, want) {
			t.Errorf("Poly of %d corners is %v, want %v", many, spots, want)
		}
		slices.Reverse(l)
		slices.Reverse(want)
		if spots := poly(t, l, v); !slices.Equal(spots, want) {
			t.Errorf("Poly of %d corners, backwards, is %v, want %v", many, spots, want)
		}
	}
	if spots := poly(t, slices.Repeat([]api.Corner{at(0, 0, 0, 1, 7)}, 5000), v); !slices.Equal(spots, slices.Repeat([]api.Spot{to(480, 480, 32767, 7)}, 5000)) {
		t.Errorf("Poly of 5000 corners is %d spots", len(spots))
	}
}

// Of no corner there is no spot; but the viewport is asked.
func TestPolygonsOfNoCorner(t *testing.T) {
	for _, l := range [][]api.Corner{nil, {}, make([]api.Corner, 0, 9)} {
		for _, v := range ports() {
			if spots := poly(t, l, v); len(spots) != 0 {
				t.Errorf("Poly of no corner in %v is %v", v, spots)
			}
		}
		for _, v := range wrongPorts() {
			if spots, e := Poly(l, v); spots != nil || e != api.ErrView {
				t.Errorf("Poly of no corner in %v is %v, %d", v, spots, e)
			}
		}
	}
}

// What has just a spot, at each bound, and what has just none.
func TestSnapAtEachBound(t *testing.T) {
	v := port(10, 20, 40, 20)
	for i := range 10 {
		for _, n := range []int{bound(i), -bound(i)} {
			c := with(at(0, 0, 0, 256), i, n)
			want := api.OK
			if i == 3 && n < 0 {
				want = api.ErrRange
			}
			if _, e := Snap(c, v); e != want {
				t.Errorf("Snap(%v) has the error %d, want %d", c, e, want)
			}
			c = with(c, i, n+n/bound(i))
			if s, e := Snap(c, v); s != (api.Spot{}) || e != api.ErrRange {
				t.Errorf("Snap(%v) is %v, %d", c, s, e)
			}
		}
	}
	for w, want := range map[int]api.Errno{-1: api.ErrRange, 0: api.ErrRange, 1: api.OK} {
		if _, e := Snap(at(0, 0, 0, w), v); e != want {
			t.Errorf("Snap of W %d has the error %d, want %d", w, e, want)
		}
	}
}

// At the first, at the last, and at a middle place, of few and of many.
func TestCornersWithoutASpot(t *testing.T) {
	v := port(10, 20, 40, 20)
	for _, wrong := range wrongCorners() {
		if s, e := Snap(wrong, v); s != (api.Spot{}) || e != api.ErrRange {
			t.Fatalf("Snap(%v) is %v, %d", wrong, s, e)
		}
		for _, many := range []int{1, 2, 3, 7, 16, 17, 40} {
			for _, place := range []int{0, many / 2, many - 1} {
				l := slices.Repeat([]api.Corner{at(1, 2, 3, 256, 4)}, many)
				l[place] = wrong
				if spots, e := Poly(l, v); spots != nil || e != api.ErrRange {
					t.Fatalf("Poly of %d corners, with %v at %d, is %v, %d", many, wrong, place, spots, e)
				}
			}
		}
		if spots, e := Poly([]api.Corner{wrong, wrong, wrong}, v); spots != nil || e != api.ErrRange {
			t.Fatalf("Poly of %v three times is %v, %d", wrong, spots, e)
		}
	}
}

// The viewport is asked ahead of the corner, whether that has a spot or not.
func TestErrorsInTheirOrder(t *testing.T) {
	wrong := wrongCorners()
	for i, v := range wrongPorts() {
		for _, c := range []api.Corner{at(0, 0, 0, 256), at(end, end, end, 1), wrong[i%len(wrong)], at(0, 0, 0, 0), at(least, most, least, most), {}} {
			if s, e := Snap(c, v); s != (api.Spot{}) || e != api.ErrView {
				t.Fatalf("Snap(%v, %v) is %v, %d", c, v, s, e)
			}
			for _, l := range [][]api.Corner{{c}, {c, at(0, 0, 0, 1)}, {at(0, 0, 0, 1), c}, slices.Repeat([]api.Corner{c}, 20)} {
				if spots, e := Poly(l, v); spots != nil || e != api.ErrView {
					t.Fatalf("Poly(%v, %v) is %v, %d", l, v, spots, e)
				}
			}
		}
	}
}

// P16.3

// inOrder are numbers of a corner's place, from the least one on: close together and far apart.
func inOrder(w int) []int {
	l := []int{-end, 1 - end, end - 1, end}
	for _, middle := range []int{-17 * w, -16 * w, -w, 0, w, 15 * w, 16 * w} {
		for by := -9; by <= 9; by++ {
			for _, n := range []int{middle + by, middle + by*w/7} {
				if n >= -end && n <= end {
					l = append(l, n)
				}
			}
		}
	}
	slices.Sort(l)
	return slices.Compact(l)
}

func TestInOrder(t *testing.T) {
	for _, v := range ports() {
		for _, w := range []int{1, 2, 3, 16, 255, 256, 65535, 65537, 1 << 26, end - 1, end} {
			l := inOrder(w)
			for i, n := range l[1:] {
				before := l[i]
				for _, other := range []int{0, -w, end} {
					if a, b := snap(t, at(before, other, -other, w), v), snap(t, at(n, other, -other, w), v); b.P.X < a.P.X || a.P.Y != b.P.Y || a.Z != b.Z {
						t.Fatalf("in %v, of W %d, X %d is at %v, and X %d at %v", v, w, before, a, n, b)
					}
					if a, b := snap(t, at(other, before, -other, w), v), snap(t, at(other, n, -other, w), v); b.P.Y > a.P.Y || a.P.X != b.P.X || a.Z != b.Z {
						t.Fatalf("in %v, of W %d, Y %d is at %v, and Y %d at %v", v, w, before, a, n, b)
					}
					if a, b := snap(t, at(other, -other, before, w), v), snap(t, at(other, -other, n, w), v); b.Z < a.Z || a.P != b.P {
						t.Fatalf("in %v, of W %d, Z %d is at %v, and Z %d at %v", v, w, before, a, n, b)
					}
				}
			}
		}
	}
}

// Where a number is a part, or more, the order is strict, up to where they are held: what is greater is told apart.
func TestInStrictOrder(t *testing.T) {
	v := port(-2048, -2048, side, side)
	for _, n := range []int{-7 * 32768, -32768, -1, 0, 1, 32767, 5 * 32768} {
		a, b := snap(t, at(n, n, 0, 32768), v), snap(t, at(n+1, n+1, 0, 32768), v)
		if b.P.X != a.P.X+1 || b.P.Y != a.P.Y-1 {
			t.Errorf("%d is at %v, and one more at %v", n, a.P, b.P)
		}
	}
	for _, n := range []int{-65535, -2, -1, 0, 1, 65533} {
		a, b := snap(t, at(0, 0, n, 65535), v), snap(t, at(0, 0, n+2, 65535), v)
		if b.Z != a.Z+1 {
			t.Errorf("%d has the depth %d, and two more %d", n, a.Z, b.Z)
		}
	}
}

// R3, R4

// What is handed in is as it was, its spare room too; what stands there is not asked.
func TestPolygonsAreNotChanged(t *testing.T) {
	v := port(-7, -9, 5, 33)
	for _, many := range []int{0, 1, 3, 16, 17, 30} {
		whole := append(corners()[:many:many], slices.Repeat([]api.Corner{at(most, least, 7, 0, 9)}, 40)...)
		kept := slices.Clone(whole)
		l := whole[:many]
		for range 2 {
			spots := poly(t, l, v)
			for i, s := range spots {
				if s != told(kept[i], v) {
					t.Errorf("Poly's spot %d of %v is %v", i, l, s)
				}
			}
		}
		if spots, e := Poly(whole, v); spots != nil || e != api.ErrRange {
			t.Errorf("Poly(%v) is %v, %d", whole, spots, e)
		}
		if spots, e := Poly(l, port(0, 0, -1, 0)); spots != nil || e != api.ErrView {
			t.Errorf("Poly(%v) is %v, %d", l, spots, e)
		}
		if !slices.Equal(whole, kept) {
			t.Fatalf("Poly of %d corners made %v of %v", many, whole, kept)
		}
	}
}

// What is answered is new memory: what becomes of one answer, or of the polygon, is not seen in another one.
func TestAnswersAreNew(t *testing.T) {
	v := port(10, 20, 40, 20)
	l := []api.Corner{at(0, 0, 0, 256, 1), at(1, 0, 0, 256, 2), at(0, 1, 0, 256, 3)}
	first, second := poly(t, l, v), poly(t, l, v)
	want := slices.Clone(second)
	for i := range first[:cap(first)] {
		first[:cap(first)][i] = to(-1, -2, -3, -4)
	}
	l[0] = at(-256, -256, 0, 256)
	if !slices.Equal(second, want) {
		t.Errorf("%v became %v", want, second)
	}
}
