package edge

import (
	"math"
	"math/big"
	"testing"

	"tempera/api"
)

const most, least = math.MaxInt, math.MinInt

// far is the greatest amount of a point's numbers.
const far = 1 << 19

// of is a point, by its numbers.
func of(x, y int) api.Point {
	return api.Point{X: x, Y: y}
}

// three is a triangle, by its points' numbers.
func three(ax, ay, bx, by, cx, cy int) [3]api.Point {
	return [3]api.Point{of(ax, ay), of(bx, by), of(cx, cy)}
}

// turned is a triangle, whichever of its corners comes first.
func turned(t [3]api.Point) [][3]api.Point {
	return [][3]api.Point{t, {t[1], t[2], t[0]}, {t[2], t[0], t[1]}}
}

// wrongNumbers are numbers that no point may have, some of which it might if their higher bits, or their sign, were lost.
func wrongNumbers() []int {
	return []int{
		far + 1, -far - 1, far + 2, -far - 2, far + 8, -far - 8, 1 << 20, -1 << 20, 1 << 31, -1 << 31, 1 << 32, 1<<32 + 1, -1 << 32, -1<<32 + 1,
		1 << 62, -1 << 62, least, least + 1, least + far, most - far, most - 1, most,
	}
}

// wrongPlaces are numbers that no pixel may have, some of which it might if their higher bits were lost, behind being taken 16 times too.
func wrongPlaces() []int {
	return []int{
		1 << 15, -1<<15 - 1, 1<<15 + 1, -1<<15 - 2, 1 << 16, -1 << 16, far, -far, 1 << 28, 1 << 32, 1<<32 + 1, -1 << 32, 1 << 59, 1 << 60, 1<<60 + 1, -1 << 60, -1<<60 - 1,
		1 << 61, 1 << 62, -1 << 62, least, least + 1, most - 1, most,
	}
}

// wrongPoints are points with a number, or both, that may not be.
func wrongPoints() []api.Point {
	var l []api.Point
	for _, n := range wrongNumbers() {
		l = append(l, of(n, 0), of(0, n), of(n, far), of(-far, n), of(n, n), of(n, least), of(most, n))
	}
	return l
}

// grid is points from lo on, so many to a side, so far from each other.
func grid(lo, many, step int) []api.Point {
	var l []api.Point
	for i := range many * many {
		l = append(l, of(lo+i%many*step, lo+i/many*step))
	}
	return l
}

// det is the side, worked out without a bound, and by another formula: each point's X times what the two others' Y are apart.
func det(a, b, p api.Point) *big.Int {
	term := func(x, y, less int) *big.Int {
		d := new(big.Int).Sub(big.NewInt(int64(y)), big.NewInt(int64(less)))
		return d.Mul(d, big.NewInt(int64(x)))
	}
	sum := term(a.X, b.Y, p.Y)
	sum.Add(sum, term(b.X, p.Y, a.Y))
	return sum.Add(sum, term(p.X, a.Y, b.Y))
}

// strictly tells whether little triangles have a pixel, by another rule than the chapter's that comes to the same: no edge owns its line, but the pixel's middle is moved by next to nothing to the right, and by next to nothing of that downwards, so that it lies on no line any more.
func strictly(t [3]api.Point, x, y int) bool {
	const whole, right, down = 1 << 24, 1 << 12, 1
	p := of((16*x+8)*whole+right, (16*y+8)*whole+down)
	for i := range t {
		a, b := t[i], t[(i+1)%3]
		if (b.X-a.X)*(p.Y-a.Y*whole) <= (b.Y-a.Y)*(p.X-a.X*whole) {
			return false
		}
	}
	return true
}

// has asks Has of what may be.
func has(t *testing.T, q [3]api.Point, x, y int) bool {
	t.Helper()
	is, e := Has(q, x, y)
	if e != api.OK {
		t.Fatalf("Has(%v, %d, %d) has the error %d", q, x, y, e)
	}
	return is
}

// count is how many of some triangles have a pixel.
func count(t *testing.T, x, y int, l ...[3]api.Point) int {
	t.Helper()
	n := 0
	for _, q := range l {
		if has(t, q, x, y) {
			n++
		}
	}
	return n
}

// P12.1

func TestSideTold(t *testing.T) {
	for _, c := range []struct {
		a, b, p api.Point
		want    int
	}{
		// To the right, to the left of who goes to the right, to the left, down, up.
		{of(0, 0), of(1, 0), of(0, 1), 1}, {of(0, 0), of(1, 0), of(0, -1), -1}, {of(0, 0), of(-1, 0), of(0, -1), 1}, {of(0, 0), of(-1, 0), of(0, 1), -1},
		{of(0, 0), of(0, 1), of(-1, 0), 1}, {of(0, 0), of(0, 1), of(1, 0), -1}, {of(0, 0), of(0, -1), of(1, 0), 1}, {of(0, 0), of(0, -1), of(-1, 0), -1},
		// Ordinary ones, also far from 0 0.
		{of(0, 0), of(32, 0), of(0, 32), 1024}, {of(3, 5), of(13, 9), of(7, 25), 184}, {of(13, 9), of(3, 5), of(7, 25), -184}, {of(-3, -5), of(7, -1), of(1, 15), 184},
		{of(1003, -995), of(1013, -991), of(1007, -975), 184},
		// On the line: between its points, ahead of them, behind them, at each of them.
		{of(2, 3), of(6, 9), of(4, 6), 0}, {of(2, 3), of(6, 9), of(0, 0), 0}, {of(2, 3), of(6, 9), of(8, 12), 0}, {of(2, 3), of(6, 9), of(2, 3), 0}, {of(2, 3), of(6, 9), of(6, 9), 0},
		// Just beside it.
		{of(2, 3), of(6, 9), of(4, 7), 4}, {of(2, 3), of(6, 9), of(4, 5), -4}, {of(2, 3), of(6, 9), of(3, 6), 6}, {of(2, 3), of(6, 9), of(5, 6), -6},
		// An edge of two points that are the same.
		{of(5, 5), of(5, 5), of(9, -7), 0}, {of(5, 5), of(5, 5), of(5, 5), 0},
		// As far as may be.
		{of(-far, -far), of(far, -far), of(-far, far), 1 << 40}, {of(far, -far), of(-far, -far), of(far, far), -1 << 40}, {of(-far, -far), of(far, -far), of(far, far), 1 << 40},
		{of(-far, -far), of(far, far), of(-far, far), 1 << 40}, {of(-far, -far), of(far, far), of(far, -far), -1 << 40}, {of(-far, -far), of(far, far), of(0, 0), 0},
		{of(far, far), of(far, far), of(-far, -far), 0}, {of(-far, far), of(far, -far), of(far-1, far), 1<<40 - 1<<20}, {of(-far, -far), of(far, far-1), of(far, far), 1 << 20},
	} {
		if got, e := Side(c.a, c.b, c.p); got != c.want || e != api.OK {
			t.Errorf("Side(%v, %v, %v) is %d, %d, want %d", c.a, c.b, c.p, got, e, c.want)
		}
	}
}

// All threes of some points, at the numbers' ends too, held against a side that has no bound.
func TestSideOfMany(t *testing.T) {
	numbers := []int{-far, -far + 1, -7, 0, 1, far - 1, far}
	k := len(numbers)
	var l []api.Point
	for i := range k * k {
		l = append(l, of(numbers[i%k], numbers[i/k]))
	}
	for _, a := range l {
		for _, b := range l {
			for _, p := range l {
				want := det(a, b, p)
				if got, e := Side(a, b, p); big.NewInt(int64(got)).Cmp(want) != 0 || e != api.OK {
					t.Fatalf("Side(%v, %v, %v) is %d, %d, want %v", a, b, p, got, e, want)
				}
			}
		}
	}
}

// In each of the three points, beside points that may be, and beside others that may not.
func TestSideOfWrongPoints(t *testing.T) {
	good := []api.Point{{}, of(3, -4), of(far, far), of(-far, -far)}
	for _, w := range wrongPoints() {
		for _, g := range good {
			for _, c := range [][3]api.Point{{w, g, of(1, 2)}, {g, w, of(1, 2)}, {g, of(1, 2), w}, {w, w, g}, {w, g, w}, {g, w, w}, {w, w, w}} {
				if got, e := Side(c[0], c[1], c[2]); got != 0 || e != api.ErrRange {
					t.Errorf("Side(%v, %v, %v) is %d, %d", c[0], c[1], c[2], got, e)
				}
			}
		}
	}
}

// One number at its ends, and one beyond each, all others in the middle.
func TestPointsAtTheirEnds(t *testing.T) {
	for at := range 6 {
		for _, c := range []struct {
			n    int
			want api.Errno
		}{{-far, api.OK}, {far, api.OK}, {-far - 1, api.ErrRange}, {far + 1, api.ErrRange}} {
			n := [6]int{1, 2, 30, 4, 5, 60}
			n[at] = c.n
			q := three(n[0], n[1], n[2], n[3], n[4], n[5])
			want := 0
			if c.want == api.OK {
				want = int(det(q[0], q[1], q[2]).Int64())
			}
			if got, e := Side(q[0], q[1], q[2]); got != want || e != c.want {
				t.Errorf("Side(%v) is %d, %d, want %d, %d", q, got, e, want, c.want)
			}
			if is, e := Has(q, -9, -9); is || e != c.want {
				t.Errorf("Has(%v, -9, -9) is %v, %d, want %d", q, is, e, c.want)
			}
		}
	}
}

func TestOwnsTold(t *testing.T) {
	for _, c := range []struct {
		a, b api.Point
		want bool
	}{
		// Up, down, to the right, to the left, and between these.
		{of(5, 5), of(5, 4), true}, {of(5, 5), of(5, 6), false}, {of(5, 5), of(6, 5), true}, {of(5, 5), of(4, 5), false},
		{of(5, 5), of(6, 4), true}, {of(5, 5), of(4, 4), true}, {of(5, 5), of(6, 6), false}, {of(5, 5), of(4, 6), false},
		{of(5, 5), of(-95, 4), true}, {of(5, 5), of(105, 4), true}, {of(5, 5), of(-95, 6), false}, {of(5, 5), of(105, 6), false},
		{of(-5, -5), of(-5, -6), true}, {of(-5, -5), of(-4, -5), true}, {of(-5, -5), of(-6, -5), false}, {of(-5, -5), of(-5, -4), false},
		// The same point.
		{api.Point{}, api.Point{}, false}, {of(5, 5), of(5, 5), false}, {of(least, least), of(least, least), false}, {of(most, most), of(most, most), false},
		// The int's own ends, where a difference would wrap round.
		{of(0, most), of(0, least), true}, {of(0, least), of(0, most), false}, {of(least, 0), of(most, 0), true}, {of(most, 0), of(least, 0), false},
		{of(least, most), of(most, least), true}, {of(most, least), of(least, most), false}, {of(most, most), of(least, least), true}, {of(least, least), of(most, most), false},
		{of(-1, 7), of(most, 7), true}, {of(most, 7), of(-1, 7), false}, {of(7, most), of(7, -1), true}, {of(7, -1), of(7, most), false},
	} {
		if got := Owns(c.a, c.b); got != c.want {
			t.Errorf("Owns(%v, %v) is %v", c.a, c.b, got)
		}
	}
}

// A line belongs to the edge in just one of its two ways.
func TestOwnsOneWay(t *testing.T) {
	for _, numbers := range [][]int{{-2, -1, 0, 1, 2}, {least, least + 1, -1, 0, 1, most - 1, most}} {
		k := len(numbers)
		for i := range k * k * k * k {
			a, b := of(numbers[i%k], numbers[i/k%k]), of(numbers[i/k/k%k], numbers[i/k/k/k])
			forth, back := Owns(a, b), Owns(b, a)
			if a == b && (forth || back) || a != b && forth == back {
				t.Errorf("Owns of %v and %v: %v, and back %v", a, b, forth, back)
			}
		}
	}
}

// P12.2

func TestMiddleTold(t *testing.T) {
	for _, c := range []struct {
		x, y int
		want api.Point
	}{
		{0, 0, of(8, 8)}, {1, 0, of(24, 8)}, {0, 1, of(8, 24)}, {3, 7, of(56, 120)}, {-1, 0, of(-8, 8)}, {0, -1, of(8, -8)}, {-2, -3, of(-24, -40)}, {255, 256, of(4088, 4104)},
		{-1 << 15, 0, of(-far+8, 8)}, {0, -1 << 15, of(8, -far+8)}, {1<<15 - 1, 0, of(far-8, 8)}, {0, 1<<15 - 1, of(8, far-8)},
		{-1 << 15, -1 << 15, of(-far+8, -far+8)}, {1<<15 - 1, 1<<15 - 1, of(far-8, far-8)}, {-1 << 15, 1<<15 - 1, of(-far+8, far-8)},
	} {
		if got, e := Middle(c.x, c.y); got != c.want || e != api.OK {
			t.Errorf("Middle(%d, %d) is %v, %d, want %v", c.x, c.y, got, e, c.want)
		}
	}
}

// Of all numbers that may be: each 16 beyond the one ahead of it.
func TestMiddleOfAll(t *testing.T) {
	want := -far + 8
	for n := -1 << 15; n < 1<<15; n++ {
		if got, e := Middle(n, 0); got != of(want, 8) || e != api.OK {
			t.Fatalf("Middle(%d, 0) is %v, %d", n, got, e)
		}
		if got, e := Middle(0, n); got != of(8, want) || e != api.OK {
			t.Fatalf("Middle(0, %d) is %v, %d", n, got, e)
		}
		want += 16
	}
}

// A triangle with wrong points has the same error beside a pixel that may not be.
func TestWrongPlaces(t *testing.T) {
	great := three(-far, -far, far, -far, -far, far)
	for _, n := range wrongPlaces() {
		for _, c := range [][2]int{{n, 0}, {0, n}, {n, n}, {n, 1<<15 - 1}, {-1 << 15, n}, {n, 1 << 15}, {least, n}, {n, most}} {
			if got, e := Middle(c[0], c[1]); got != (api.Point{}) || e != api.ErrRange {
				t.Errorf("Middle(%d, %d) is %v, %d", c[0], c[1], got, e)
			}
			for _, q := range [][3]api.Point{great, {}, three(0, 0, 0, 32, 32, 0), three(least, 0, most, 0, 0, most)} {
				if is, e := Has(q, c[0], c[1]); is || e != api.ErrRange {
					t.Errorf("Has(%v, %d, %d) is %v, %d", q, c[0], c[1], is, e)
				}
			}
		}
	}
}

// The chapter's example, whichever corner comes first: of all pixels around it, one alone.
func TestHasOfTheExample(t *testing.T) {
	for _, q := range turned(three(0, 0, 32, 0, 0, 32)) {
		for y := -3; y <= 5; y++ {
			for x := -3; x <= 5; x++ {
				if is := has(t, q, x, y); is != (x == 0 && y == 0) {
					t.Errorf("Has(%v, %d, %d) is %v", q, x, y, is)
				}
			}
		}
	}
}

func TestHasTold(t *testing.T) {
	// Corners at pixels' middles: 8 is that of 0, 24 that of 1, 40 that of 2.
	right := three(8, 8, 40, 8, 40, 40)
	left := three(8, 8, 40, 40, 8, 40)
	below := three(24, 8, 40, 40, 8, 40)
	for _, c := range []struct {
		q    [3]api.Point
		x, y int
		want bool
	}{
		// On its upper edge, which goes to the right; on its right edge, which goes down; on the long one, which goes up; within; beside.
		{right, 1, 0, true}, {right, 2, 1, false}, {right, 1, 1, true}, {three(8, 8, 56, 8, 56, 56), 2, 1, true}, {right, 0, 1, false}, {right, 1, -1, false}, {right, 3, 1, false},
		// Its corners: where two edges meet that own their lines, one that does, none.
		{right, 0, 0, true}, {right, 2, 0, false}, {right, 2, 2, false},
		// On the long one, which goes down; on the lower one, which goes to the left; on the left one, which goes up.
		{left, 1, 1, false}, {left, 1, 2, false}, {left, 0, 1, true}, {left, 0, 0, false}, {left, 2, 2, false}, {left, 0, 2, false},
		// A corner above, where one edge goes up and the other one down; within; on its lower edge.
		{below, 1, 0, false}, {below, 1, 1, true}, {below, 1, 2, false}, {below, 0, 2, false}, {below, 2, 2, false},
		// On the line of an edge that owns it, but beside the triangle.
		{right, -1, 0, false}, {right, 3, 0, false}, {left, 0, -1, false}, {left, 0, 3, false},
	} {
		for _, q := range turned(c.q) {
			if is := has(t, q, c.x, c.y); is != c.want {
				t.Errorf("Has(%v, %d, %d) is %v", q, c.x, c.y, is)
			}
		}
	}
}

// Of no area: a point, a line with pixels' middles on it, in both ways; and whose own side is below 0.
func TestHasOfNoAreaAndOfTheOtherWay(t *testing.T) {
	var l [][3]api.Point
	for _, q := range [][3]api.Point{
		{}, three(8, 8, 8, 8, 8, 8), three(8, 8, 40, 8, 24, 8), three(8, 8, 8, 40, 8, 24), three(8, 8, 40, 40, 24, 24), three(8, 8, 40, 40, 8, 8),
		three(40, 8, 8, 40, 24, 24), three(8, 8, 40, 8, 40, 8), three(0, 0, 1, 1, 3, 3),
		three(0, 0, 0, 32, 32, 0), three(-64, -64, -64, 256, 256, -64), three(8, 8, 8, 40, 40, 8), three(8, 8, 40, 40, 40, 8), three(8, 40, 8, 8, 0, 0),
	} {
		l = append(l, turned(q)...)
		if s, _ := Side(q[0], q[1], q[2]); s == 0 {
			l = append(l, turned([3]api.Point{q[0], q[2], q[1]})...)
		}
	}
	for _, q := range l {
		for y := -2; y <= 4; y++ {
			for x := -2; x <= 4; x++ {
				if has(t, q, x, y) {
					t.Errorf("Has(%v, %d, %d)", q, x, y)
				}
			}
		}
	}
}

// All triangles of points at middles, between two, and a little beside these, of each pixel around them, held against middles that lie on no line.
func TestHasOfMany(t *testing.T) {
	var l []api.Point
	for i, n := range []int{8, 16, 24, 31, 40} {
		for j, m := range []int{8, 17, 24, 40, 48} {
			if (i+j)%2 == 0 || n == 24 || m == 24 {
				l = append(l, of(n-24, m-24))
			}
		}
	}
	for _, a := range l {
		for _, b := range l {
			for _, c := range l {
				q := [3]api.Point{a, b, c}
				for i := range 25 {
					x, y := i%5-2, i/5-2
					if is, want := has(t, q, x, y), strictly(q, x, y); is != want {
						t.Fatalf("Has(%v, %d, %d) is %v, want %v", q, x, y, is, want)
					}
				}
			}
		}
	}
}

// In each corner, beside pixels that may be.
func TestHasOfWrongPoints(t *testing.T) {
	for _, w := range wrongPoints() {
		for _, q := range [][3]api.Point{{w, of(32, 0), of(0, 32)}, {w, w, of(far, far)}, {w, w, w}, {w, of(-far, far), of(-far, -far)}} {
			for _, q := range turned(q) {
				for _, p := range []api.Point{{}, of(-1<<15, -1<<15), of(1<<15-1, 1<<15-1)} {
					if is, e := Has(q, p.X, p.Y); is || e != api.ErrRange {
						t.Errorf("Has(%v, %d, %d) is %v, %d", q, p.X, p.Y, is, e)
					}
				}
			}
		}
	}
}

// The pixels whose middles may just be, of triangles that are as great as may be.
func TestHasAtTheScreensEnds(t *testing.T) {
	const first, last = -1 << 15, 1<<15 - 1
	upper := three(-far, -far, far, -far, -far, far)
	lower := three(far, -far, far, far, -far, far)
	for _, c := range []struct {
		q    [3]api.Point
		x, y int
		want bool
	}{
		{upper, first, first, true}, {upper, 0, 0, false}, {upper, -1, -1, true}, {upper, last, last, false}, {upper, last, first, false}, {upper, first, last, false},
		{upper, last - 1, first, true}, {upper, first, last - 1, true}, {upper, 0, -1, false}, {upper, -2, 0, true},
		{lower, first, first, false}, {lower, 0, 0, true}, {lower, -1, -1, false}, {lower, last, last, true}, {lower, last, first, true}, {lower, first, last, true},
		{lower, last - 1, first, false}, {lower, first, last - 1, false}, {lower, 0, -1, true}, {lower, -2, 0, false},
		{three(-far, -far, -far+8, -far+8, -far, -far+16), first, first, false}, {three(-far, -far, -far+9, -far+8, -far, -far+16), first, first, true},
		{three(far, far, far-8, far-8, far, far-16), last, last, true}, {three(far, far, far-7, far-8, far, far-16), last, last, false},
	} {
		for _, q := range turned(c.q) {
			if is := has(t, q, c.x, c.y); is != c.want {
				t.Errorf("Has(%v, %d, %d) is %v", q, c.x, c.y, is)
			}
		}
	}
}

// P12.3

// A square, cut along each of its lines from corner to corner, has each pixel once whose middle lies within it, or on its upper, or its left edge.
func TestSquareOnce(t *testing.T) {
	for _, side := range []int{1, 8, 16, 17, 32, 40, 48} {
		for _, at := range []api.Point{of(0, 0), of(8, 8), of(-8, 8), of(7, 9), of(-24, -40), of(3, -5)} {
			x0, y0, x1, y1 := at.X, at.Y, at.X+side, at.Y+side
			cuts := [][2][3]api.Point{
				{three(x0, y0, x1, y0, x1, y1), three(x0, y0, x1, y1, x0, y1)},
				{three(x0, y0, x1, y0, x0, y1), three(x1, y0, x1, y1, x0, y1)},
			}
			for i := range 81 {
				x, y := i%9-4, i/9-4
				m, _ := Middle(x, y)
				want := 0
				if m.X >= x0 && m.X < x1 && m.Y >= y0 && m.Y < y1 {
					want = 1
				}
				for _, cut := range cuts {
					for _, a := range turned(cut[0]) {
						for _, b := range turned(cut[1]) {
							if n := count(t, x, y, a, b); n != want {
								t.Fatalf("%d of %v and %v have the pixel %d, %d, want %d", n, a, b, x, y, want)
							}
						}
					}
				}
			}
		}
	}
}

// On both sides of each edge between two points of a little square: at most one has a pixel, and just one, if its middle lies on the edge, but for its ends.
func TestTwoOfAnEdge(t *testing.T) {
	l := grid(-8, 5, 8)
	for _, a := range l {
		for _, b := range l {
			for _, c := range l {
				for _, d := range l {
					if right, _ := Side(a, b, c); right <= 0 {
						continue
					}
					if left, _ := Side(a, b, d); left >= 0 {
						continue
					}
					twoOfAnEdge(t, a, b, c, d)
				}
			}
		}
	}
}

// twoOfAnEdge holds for the edge from a to b, with c to its right, and d to its left.
func twoOfAnEdge(t *testing.T, a, b, c, d api.Point) {
	t.Helper()
	for i := range 9 {
		x, y := i%3-1, i/3-1
		n := count(t, x, y, [3]api.Point{a, b, c}, [3]api.Point{b, a, d})
		m, _ := Middle(x, y)
		on, _ := Side(a, b, m)
		between := (m.X-a.X)*(m.X-b.X)+(m.Y-a.Y)*(m.Y-b.Y) < 0
		if n > 1 || n == 0 && on == 0 && between {
			t.Fatalf("%d of the triangles at %v, %v, with %v and %v, have the pixel %d, %d", n, a, b, c, d, x, y)
		}
	}
}

// Whichever corner comes first, of some edges, with each other corner around them.
func TestTwoOfAnEdgeTurned(t *testing.T) {
	for _, c := range [][4]api.Point{
		{of(8, 8), of(40, 8), of(24, 40), of(24, -24)}, {of(8, 8), of(8, 40), of(-24, 24), of(40, 24)}, {of(8, 8), of(40, 40), of(8, 40), of(40, 8)},
		{of(8, 40), of(40, 8), of(40, 40), of(8, 8)}, {of(40, 8), of(8, 8), of(8, -8), of(9, 25)}, {of(0, 0), of(48, 48), of(-16, 40), of(24, 8)},
	} {
		for i := range 49 {
			x, y := i%7-2, i/7-2
			for _, p := range turned([3]api.Point{c[0], c[1], c[2]}) {
				for _, q := range turned([3]api.Point{c[1], c[0], c[3]}) {
					want := 0
					if strictly(p, x, y) || strictly(q, x, y) {
						want = 1
					}
					if n := count(t, x, y, p, q); n != want {
						t.Errorf("%d of %v and %v have the pixel %d, %d, want %d", n, p, q, x, y, want)
					}
				}
			}
		}
	}
}

// Each triangle of points of a little square, cut into three at each point strictly within it: at pixels' middles, between them, and beside both.
func TestThreeAroundAPoint(t *testing.T) {
	corners := grid(-24, 4, 32)
	inner := append(grid(-24, 7, 16), of(-7, 9), of(1, 1), of(23, 25), of(40, 39), of(8, 7))
	cut := 0
	for _, a := range corners {
		for _, b := range corners {
			for _, c := range corners {
				for _, p := range inner {
					q := [3]api.Point{a, b, c}
					if within(q, p) {
						threeAround(t, q, p)
						cut++
					}
				}
			}
		}
	}
	if cut < 1000 {
		t.Errorf("only %d were cut", cut)
	}
}

// within tells whether a point lies strictly within a triangle.
func within(q [3]api.Point, p api.Point) bool {
	for i := range q {
		if s, _ := Side(q[i], q[(i+1)%3], p); s <= 0 {
			return false
		}
	}
	return true
}

// threeAround holds for a triangle, and a point strictly within it; the three have another corner first each.
func threeAround(t *testing.T, q [3]api.Point, p api.Point) {
	t.Helper()
	a, b, c := q[0], q[1], q[2]
	for i := range 81 {
		x, y := i%9-3, i/9-3
		want := 0
		if has(t, q, x, y) {
			want = 1
		}
		if n := count(t, x, y, [3]api.Point{a, b, p}, [3]api.Point{c, p, b}, [3]api.Point{p, c, a}); n != want {
			t.Fatalf("%d of the three around %v in %v have the pixel %d, %d, want %d", n, p, q, x, y, want)
		}
	}
}

// As great as may be, with a point at a pixel's middle: around it, and along the lines from it to the corners.
func TestThreeAtTheScreensEnds(t *testing.T) {
	for _, q := range [][3]api.Point{three(-far, -far, far, -far, -far, far), three(far, far, -far, far, far, -far), three(-far, far, 0, -far, far, far)} {
		for _, p := range []api.Point{of(8, -8), of(-24, 8), of(-8, 24), of(24, 24), of(-8-16*100, 8), of(8, 8+16*100)} {
			for i := range 121 {
				x, y := (p.X-8)/16+i%11-5, (p.Y-8)/16+i/11-5
				if !within(q, p) {
					continue
				}
				want := 0
				if has(t, q, x, y) {
					want = 1
				}
				if n := count(t, x, y, [3]api.Point{q[0], q[1], p}, [3]api.Point{q[1], q[2], p}, [3]api.Point{q[2], q[0], p}); n != want {
					t.Errorf("%d of the three around %v in %v have the pixel %d, %d, want %d", n, p, q, x, y, want)
				}
			}
		}
	}
}
