package clip

import (
	"cmp"
	"math"
	"math/big"
	"slices"
	"testing"

	"tempera/api"
)

const most, least = math.MaxInt, math.MinInt

const (
	// end is the greatest amount of a number of a corner's place.
	end = 1 << 30
	// over is the greatest amount of a number of A.
	over = 1 << 20
)

// at is a corner, by its place and by the first ones of A.
func at(x, y, z, w int, a ...int) api.Corner {
	c := api.Corner{P: api.Vec{X: x, Y: y, Z: z, W: w}}
	copy(c.A[:], a)
	return c
}

// numbers are all ten numbers of a corner: X, Y, Z, W, and those of A.
func numbers(c api.Corner) [10]int {
	l := [10]int{c.P.X, c.P.Y, c.P.Z, c.P.W}
	copy(l[4:], c.A[:])
	return l
}

// corner is a corner, by all ten numbers.
func corner(l [10]int) api.Corner {
	return at(l[0], l[1], l[2], l[3], l[4:]...)
}

// with is a corner, one of whose ten numbers is another one.
func with(c api.Corner, i, n int) api.Corner {
	l := numbers(c)
	l[i] = n
	return corner(l)
}

// bound is the greatest amount of a corner's number, by its place among the ten.
func bound(i int) int {
	if i < 4 {
		return end
	}
	return over
}

// rows tell how far a corner is within each plane: what X, Y, Z, W, and 1 are taken times.
func rows() [7][5]int {
	return [7][5]int{{0, 0, 0, 1, -1}, {0, 0, 1, 1, 0}, {0, 0, -1, 1, 0}, {-1, 0, 0, 4, 0}, {1, 0, 0, 4, 0}, {0, -1, 0, 4, 0}, {0, 1, 0, 4, 0}}
}

// inside is how far a corner is within a plane, by its row.
func inside(plane int, c api.Corner) int {
	r := rows()[plane]
	return r[0]*c.P.X + r[1]*c.P.Y + r[2]*c.P.Z + r[3]*c.P.W + r[4]
}

// weighed is a cut by another rule than the chapter's: each corner weighs as much as the other one is away from the plane, without a bound.
func weighed(plane int, in, out api.Corner) api.Corner {
	d, e := big.NewInt(int64(inside(plane, in))), big.NewInt(int64(inside(plane, out)))
	whole, a, b := new(big.Int).Sub(d, e), numbers(in), numbers(out)
	for i := range a {
		n, m := new(big.Int).Mul(big.NewInt(int64(a[i])), e), new(big.Int).Mul(big.NewInt(int64(b[i])), d)
		// Euclidean, which is downwards where what divides is above 0.
		a[i] = int(m.Sub(m, n).Div(m, whole).Int64())
	}
	w := a[3]
	switch plane {
	case 0:
		a[3] = 1
	case 1, 2:
		a[2] = []int{-w, w}[plane-1]
	case 3, 4:
		a[0] = []int{4 * w, -4 * w}[plane-3]
	case 5, 6:
		a[1] = []int{4 * w, -4 * w}[plane-5]
	}
	return corner(a)
}

// sifted is a polygon, cut off at a plane, by another way than the chapter's: cuts are laid wherever an edge goes through the plane, and then corners beyond it are dropped.
func sifted(plane int, poly []api.Corner) []api.Corner {
	type step struct {
		c  api.Corner
		is bool
	}
	var l []step
	for i, c := range poly {
		next := poly[0]
		if i+1 < len(poly) {
			next = poly[i+1]
		}
		l = append(l, step{c, inside(plane, c) >= 0})
		if d, e := inside(plane, c), inside(plane, next); d >= 0 && e < 0 {
			l = append(l, step{weighed(plane, c, next), true})
		} else if d < 0 && e >= 0 {
			l = append(l, step{weighed(plane, next, c), true})
		}
	}
	var kept []api.Corner
	for _, s := range l {
		if s.is {
			kept = append(kept, s.c)
		}
	}
	return kept
}

// siftedAll is a polygon, cut off at plane after plane, and how many corners it had at most between two of them.
func siftedAll(poly []api.Corner) (l []api.Corner, many int) {
	l = poly
	for plane := range 7 {
		l = sifted(plane, l)
		if plane < 6 {
			many = max(many, len(l))
		}
	}
	return l, many
}

// ruled makes a row of numbers of an amount, by a rule that is the same each time.
func ruled(from uint64) func(amount int) int {
	return func(amount int) int {
		from = from*6364136223846793005 + 1442695040888963407
		return int((from>>20)%uint64(2*amount+1)) - amount
	}
}

// polygons are many polygons of up to 16 corners, of small numbers and of great ones, most of which go through planes.
func polygons() [][]api.Corner {
	var all [][]api.Corner
	for i, amount := range []int{2, 3, 9, 30, 300, 70000, over, 1 << 25, end} {
		number := ruled(uint64(i))
		for many := range 17 {
			for kind := range 8 {
				var l []api.Corner
				for range many {
					c := at(number(amount), number(amount), number(amount), number(amount))
					// Ahead of the eye, or next to it, as most corners are: there other planes have more to cut.
					if kind%4 < 3 {
						c.P.W = max(c.P.W, -c.P.W/2)
					}
					// Near the middle.
					if kind < 4 {
						c.P.Z /= 2
					}
					for j := range c.A {
						c.A[j] = number(min(amount, over))
					}
					l = append(l, c)
				}
				all = append(all, l)
			}
		}
	}
	return all
}

// steps are places that are just within, on, and just outside of a plane, all else well within: outside by so much, that many.
func steps(plane, w, by int) api.Corner {
	c := at(0, 0, 0, w)
	switch plane {
	case 0:
		c.P.W = 1 - by
	case 1:
		c.P.Z = -w - by
	case 2:
		c.P.Z = w + by
	case 3:
		c.P.X = 4*w + by
	case 4:
		c.P.X = -4*w - by
	case 5:
		c.P.Y = 4*w + by
	case 6:
		c.P.Y = -4*w - by
	}
	return c
}

// noPlanes are numbers of no plane, some of which would be one's if their higher bits, or their sign, were lost.
func noPlanes() []int {
	return []int{-1, 7, -2, -6, -7, 8, 16, 1 << 8, 1<<8 + 3, -1 << 16, 1 << 32, 1<<32 + 6, -1 << 32, -1<<32 + 1, 1 << 62, least, least + 1, least + 6, most - 1, most}
}

// beyond are numbers beyond an amount, some of which would not be if their higher bits, or their sign, were lost.
func beyond(amount int) []int {
	return []int{
		amount + 1, -amount - 1, amount + 2, -amount - 2, 2 * amount, -2 * amount, 1 << 32, 1<<32 + 1, -1 << 32, -1<<32 - 1, 1 << 60, 1 << 61, 1 << 62, -1 << 62, 1<<62 + 1,
		least, least + 1, least + amount, most - amount, most - 1, most,
	}
}

// wrongCorners are corners that may not be, for one number each, and for all.
func wrongCorners() []api.Corner {
	var l []api.Corner
	for i := range 10 {
		for _, n := range beyond(bound(i)) {
			l = append(l, with(at(0, 0, 0, 256), i, n), with(api.Corner{}, i, n), with(at(end, -end, end, -end, over, -over), i, n))
		}
	}
	for _, n := range []int{least, most, end + 1, -end - 1} {
		l = append(l, at(n, n, n, n, n, n, n, n, n, n), at(n, -n, n, n))
	}
	return l
}

// edgeCorners are corners that may be, with a number that is as great as it may be, or next to it.
func edgeCorners() []api.Corner {
	var l []api.Corner
	for i := range 10 {
		for _, n := range []int{bound(i), bound(i) - 1, -bound(i), 1 - bound(i)} {
			l = append(l, with(at(0, 0, 0, 256), i, n), with(at(0, 0, 0, -256), i, n))
		}
	}
	for i := range 1 << 4 {
		sign := func(bit int) int { return 1 - i>>bit%2*2 }
		l = append(l, at(sign(0)*end, sign(1)*end, sign(2)*end, sign(3)*end, over, -over, over, -over, over, -over))
	}
	return l
}

// farOf asks Far of what may be.
func farOf(t *testing.T, plane int, c api.Corner) int {
	t.Helper()
	n, e := Far(plane, c)
	if e != api.OK {
		t.Fatalf("Far(%d, %v) has the error %d", plane, c, e)
	}
	return n
}

// cutOf asks Cut of what may be.
func cutOf(t *testing.T, plane int, in, out api.Corner) api.Corner {
	t.Helper()
	c, e := Cut(plane, in, out)
	if e != api.OK {
		t.Fatalf("Cut(%d, %v, %v) has the error %d", plane, in, out, e)
	}
	return c
}

// atOf asks At of what may be.
func atOf(t *testing.T, plane int, poly []api.Corner) []api.Corner {
	t.Helper()
	l, e := At(plane, poly)
	if e != api.OK {
		t.Fatalf("At(%d, %v) has the error %d", plane, poly, e)
	}
	return l
}

// allOf asks All of what may be.
func allOf(t *testing.T, poly []api.Corner) []api.Corner {
	t.Helper()
	l, e := All(poly)
	if e != api.OK {
		t.Fatalf("All(%v) has the error %d", poly, e)
	}
	return l
}

// P15.1

func TestFarTold(t *testing.T) {
	for _, c := range []struct {
		c    api.Corner
		want [7]int
	}{
		{at(0, 0, 0, 256), [7]int{255, 256, 256, 1024, 1024, 1024, 1024}},
		{at(1, 20, 300, 4000), [7]int{3999, 4300, 3700, 15999, 16001, 15980, 16020}},
		{at(-1, -20, -300, 4000, 5, 6, 7), [7]int{3999, 3700, 4300, 16001, 15999, 16020, 15980}},
		{at(1, 20, 300, -4000), [7]int{-4001, -3700, -4300, -16001, -15999, -16020, -15980}},
		{at(0, 0, 0, 1), [7]int{0, 1, 1, 4, 4, 4, 4}},
		{at(0, 0, 0, 0), [7]int{-1, 0, 0, 0, 0, 0, 0}},
		{at(0, 0, 0, -1), [7]int{-2, -1, -1, -4, -4, -4, -4}},
		// As far as there is.
		{at(-end, -end, end, end), [7]int{end - 1, 2 * end, 0, 5 * end, 3 * end, 5 * end, 3 * end}},
		{at(end, end, -end, -end), [7]int{-end - 1, -2 * end, 0, -5 * end, -3 * end, -5 * end, -3 * end}},
	} {
		for plane, want := range c.want {
			if n := farOf(t, plane, c.c); n != want {
				t.Errorf("Far(%d, %v) is %d, want %d", plane, c.c, n, want)
			}
		}
	}
}

// Just within, on, and just outside of each plane: and well within all others.
func TestFarAroundEachPlane(t *testing.T) {
	for plane := range 7 {
		for _, by := range []int{-2, -1, 0, 1, 2, 77} {
			c := steps(plane, 256, by)
			if n := farOf(t, plane, c); n != -by {
				t.Errorf("Far(%d, %v) is %d, want %d", plane, c, n, -by)
			}
			for other := range 7 {
				if n := farOf(t, other, c); plane != 0 && other != plane && n < 255 {
					t.Errorf("Far(%d, %v) is %d", other, c, n)
				}
			}
		}
	}
}

// Each number may be as great as its bound; what goes over a triangle says nothing of how far.
func TestFarAtTheBounds(t *testing.T) {
	for _, c := range edgeCorners() {
		for plane := range 7 {
			n := farOf(t, plane, c)
			if want := inside(plane, c); n != want {
				t.Errorf("Far(%d, %v) is %d, want %d", plane, c, n, want)
			}
			if m := farOf(t, plane, api.Corner{P: c.P}); m != n {
				t.Errorf("Far(%d, %v) is %d, and without A %d", plane, c, n, m)
			}
		}
	}
}

func TestFarAndCutOfNoPlane(t *testing.T) {
	wrong := at(most, 0, 0, 0)
	in, out := at(0, 0, 0, 9), at(0, 0, 0, -9)
	for _, plane := range noPlanes() {
		for _, c := range []api.Corner{in, out, wrong, at(0, 0, 0, 0, least)} {
			if n, e := Far(plane, c); n != 0 || e != api.ErrArg {
				t.Errorf("Far(%d, %v) is %d, %d", plane, c, n, e)
			}
		}
		for _, p := range [][2]api.Corner{{in, out}, {out, in}, {in, in}, {out, out}, {wrong, out}, {in, wrong}, {wrong, wrong}} {
			if c, e := Cut(plane, p[0], p[1]); c != (api.Corner{}) || e != api.ErrArg {
				t.Errorf("Cut(%d, %v) is %v, %d", plane, p, c, e)
			}
		}
	}
}

// Whatever the other corner is: that one may not be comes ahead of that it is not where it should be.
func TestFarAndCutOfWrongCorners(t *testing.T) {
	in, out := at(0, 0, 0, end), at(0, 0, 0, -end)
	for _, c := range wrongCorners() {
		for plane := range 7 {
			if n, e := Far(plane, c); n != 0 || e != api.ErrRange {
				t.Fatalf("Far(%d, %v) is %d, %d", plane, c, n, e)
			}
			for _, p := range [][2]api.Corner{{c, out}, {in, c}, {c, in}, {out, c}, {c, c}} {
				if got, e := Cut(plane, p[0], p[1]); got != (api.Corner{}) || e != api.ErrRange {
					t.Fatalf("Cut(%d, %v) is %v, %d", plane, p, got, e)
				}
			}
		}
	}
}

// Both within, both outside, the wrong way round; on the plane is within.
func TestCutOfCornersThatAreNotWhereTheyShouldBe(t *testing.T) {
	for plane := range 7 {
		for _, by := range [][2]int{{-1, -1}, {-1, 0}, {0, 0}, {0, -5}, {-9, -5}, {1, 1}, {1, 7}, {7, 1}, {1, 0}, {1, -1}, {7, -9}} {
			in, out := steps(plane, 256, by[0]), steps(plane, 256, by[1])
			if c, e := Cut(plane, in, out); c != (api.Corner{}) || e != api.ErrForm {
				t.Errorf("Cut(%d, %v, %v) is %v, %d", plane, in, out, c, e)
			}
		}
		for _, by := range [][2]int{{0, 1}, {-1, 1}, {0, 9}, {-9, 1}} {
			in, out := steps(plane, 256, by[0]), steps(plane, 256, by[1])
			if c := cutOf(t, plane, in, out); c != steps(plane, 256, 0) {
				t.Errorf("Cut(%d, %v, %v) is %v", plane, in, out, c)
			}
		}
	}
}

func TestCutTold(t *testing.T) {
	for _, c := range []struct {
		plane         int
		in, out, want api.Corner
	}{
		// The chapter's example.
		{0, at(0, 0, 0, 3), at(4, 0, 0, -1), at(2, 0, 0, 1)},
		// 1024 of 2000 of the way: upwards, downwards, below 0, above, and across 0, all cut downwards.
		{4, at(0, 100, 0, 256), at(-2000, 0, 0, 256), at(-1024, 48, 0, 256)},
		{4, at(0, 0, 7, 256, 0, 0, 100, -100, 7, -7), at(-2000, 100, -7, 256, 100, -100, 0, 0, 7, -7), at(-1024, 51, -1, 256, 51, -52, 48, -49, 7, -7)},
		{4, at(0, 0, 0, 256, 1, -1, 0, 0, 1, -1), at(-2000, 0, 0, 256, 0, 0, 1, -1, -1, 1), at(-1024, 0, 0, 256, 0, -1, 0, -1, -1, 0)},
		{3, at(0, 100, 0, 256), at(2000, 0, 0, 256), at(1024, 48, 0, 256)},
		{5, at(100, 0, 0, 256), at(0, 2000, 0, 256), at(48, 1024, 0, 256)},
		{6, at(100, 0, 0, 256), at(0, -2000, 0, 256), at(48, -1024, 0, 256)},
		{1, at(1, 2, 0, 256, 3), at(10, 20, -512, 256, 30), at(5, 11, -256, 256, 16)},
		{2, at(1, 2, 0, 256, 3), at(10, 20, 512, 256, 30), at(5, 11, 256, 256, 16)},
		{0, at(-3, 3, -8, 4, 0, 0, 0, 0, 0, 9), at(4, -4, 8, -3, 1, 2, 3, 4, 5, -9), at(0, 0, -2, 1, 0, 0, 1, 1, 2, 1)},
		// Of what was cut downwards beside the plane, the number that meets it follows W: five, -2, -5, 5, -5 and 4 lay there.
		{3, at(0, 0, 0, 2), at(9, 0, 0, 1), at(4, 0, 0, 1)}, {1, at(0, 0, 0, 2), at(0, 0, -4, 1), at(0, 0, -1, 1)},
		{4, at(0, 0, 0, 2), at(-9, 0, 0, 1), at(-4, 0, 0, 1)}, {5, at(0, 0, 0, 2), at(0, 9, 0, 1), at(0, 4, 0, 1)}, {6, at(0, 0, 0, 2), at(0, -9, 0, 1), at(0, -4, 0, 1)},
		{2, at(0, 0, 0, 2), at(0, 0, 4, 1), at(0, 0, 1, 1)},
		// Behind the eye, W is cut downwards too.
		{3, at(-10, 0, 0, -1), at(0, 0, 0, -2), at(-8, 0, 0, -2)}, {1, at(0, 0, 5, -1), at(0, 0, 0, -2), at(0, 0, 2, -2)},
		// On the plane is where it stays.
		{0, at(7, 8, 9, 1, -5), at(end, -end, end, -end, over), at(7, 8, 9, 1, -5)}, {4, at(-12, 5, 6, 3, -5), at(-end, end, 1, -end, over), at(-12, 5, 6, 3, -5)},
		// As far as there is, where products are beyond an int: half of the way.
		{3, at(-end, -end, end, end, over, -over), at(end, end, -end, -end, -over, over-1), at(0, 0, 0, 0, 0, -1)},
		{4, at(end, end, -end, end, -over), at(-end, -end+1, -end, -end, over), at(0, 0, -end, 0, 0)},
		// A little more than half of the way: X is -0.8, W 0.2, the first number of A half of 1 less than the greatest, and the third one just below 0.
		{6, at(end, end, -end, end, over, -over, over), at(-end, -end, end, -end+2, over-1, -over, -over), at(-1, 0, 0, 0, over-1, -over, -1)},
		{2, at(end, -end, -end, end, over), at(-end, end, end, -end, -over), at(0, 0, 0, 0, 0)},
		// On all planes but one, as far as there is.
		{5, at(0, -end, 0, end), at(0, end, 0, end/4-1), at(0, 1073741820, 0, 268435455)},
	} {
		if got := cutOf(t, c.plane, c.in, c.out); got != c.want {
			t.Errorf("Cut(%d, %v, %v) is %v, want %v", c.plane, c.in, c.out, got, c.want)
		}
	}
}

// Held against weights without a bound, at each plane: what comes of it lies between, and on the plane, and may be.
func TestCutsOfMany(t *testing.T) {
	l := edgeCorners()
	for _, poly := range polygons() {
		l = append(l, poly[:len(poly)/8]...)
	}
	for plane := range 7 {
		met := 0
		for i, in := range l {
			for _, out := range l[i%7*len(l)/7 : (i%7+1)*len(l)/7] {
				if inside(plane, in) < 0 || inside(plane, out) >= 0 {
					continue
				}
				met++
				c := cutOf(t, plane, in, out)
				if want := weighed(plane, in, out); c != want {
					t.Fatalf("Cut(%d, %v, %v) is %v, want %v", plane, in, out, c, want)
				}
				if n := farOf(t, plane, c); n != 0 {
					t.Fatalf("Cut(%d, %v, %v) is %v, away from the plane by %d", plane, in, out, c, n)
				}
			}
		}
		if met < 1000 {
			t.Errorf("only %d cuts at plane %d", met, plane)
		}
	}
}

// P15.2

func TestAtTold(t *testing.T) {
	a, b, c := at(-2000, 0, 0, 256, 1), at(0, 100, 0, 256, 2), at(0, 0, 0, 256, 3)
	// Of A there are 1.488, and 1.976, left.
	ab, ca := at(-1024, 48, 0, 256, 1), at(-1024, 0, 0, 256, 1)
	for _, q := range []struct {
		name  string
		plane int
		poly  []api.Corner
		want  []api.Corner
	}{
		{"a triangle, one corner of which is outside", 4, []api.Corner{a, b, c}, []api.Corner{ab, b, c, ca}},
		{"from the next corner on", 4, []api.Corner{b, c, a}, []api.Corner{b, c, ca, ab}},
		{"from the last corner on", 4, []api.Corner{c, a, b}, []api.Corner{c, ca, ab, b}},
		{"backwards", 4, []api.Corner{c, b, a}, []api.Corner{c, b, ab, ca}},
		{"a triangle, two corners of which are outside", 4, []api.Corner{a, b, a}, []api.Corner{ab, b, ab}},
		{"wholly within", 3, []api.Corner{a, b, c}, []api.Corner{a, b, c}},
		{"wholly outside", 0, []api.Corner{at(0, 0, 0, 0), at(5, 0, 0, -7), at(0, 5, 0, -end)}, nil},
		{"no corner", 4, nil, nil},
		{"no corner, and not nil", 4, []api.Corner{}, nil},
		{"one corner, within", 4, []api.Corner{b}, []api.Corner{b}},
		{"one corner, outside", 4, []api.Corner{a}, nil},
		{"two corners, within", 4, []api.Corner{b, c}, []api.Corner{b, c}},
		{"two corners, the first one outside", 4, []api.Corner{a, b}, []api.Corner{ab, b, ab}},
		{"two corners, the last one outside", 4, []api.Corner{b, a}, []api.Corner{b, ab, ab}},
		{"two corners, outside", 4, []api.Corner{a, a}, nil},
		{"a corner that comes twice, within", 4, []api.Corner{b, b, c}, []api.Corner{b, b, c}},
		{"a corner that comes twice, outside", 4, []api.Corner{a, a, b, c}, []api.Corner{ab, b, c, ca}},
		{"twice in a polygon, not next to itself", 4, []api.Corner{b, a, b, c}, []api.Corner{b, ab, ab, b, c}},
	} {
		if l := atOf(t, q.plane, q.poly); !slices.Equal(l, q.want) {
			t.Errorf("%s: At(%d) is %v, want %v", q.name, q.plane, l, q.want)
		}
	}
}

// A corner on the plane is within; its neighbour outside has a cut that lies just there, and stands beside it.
func TestAtTouched(t *testing.T) {
	for plane := range 7 {
		on, other := steps(plane, 256, 0), steps(plane, 256, 0)
		other.A = [6]int{1, 2, 3, 4, 5, 6}
		in, out, far := steps(plane, 256, -9), steps(plane, 256, 1), steps(plane, 256, 9)
		for _, q := range []struct {
			name       string
			poly, want []api.Corner
		}{
			{"one corner, from outside", []api.Corner{out, on, far}, []api.Corner{on, on, on}},
			{"one corner, from within", []api.Corner{in, on, in}, []api.Corner{in, on, in}},
			{"an edge, from outside", []api.Corner{on, other, far}, []api.Corner{on, other, other, on}},
			{"an edge, from within", []api.Corner{on, other, in}, []api.Corner{on, other, in}},
			{"all of it", []api.Corner{on, other, on}, []api.Corner{on, other, on}},
			{"one corner alone", []api.Corner{on}, []api.Corner{on}},
			{"one just outside alone", []api.Corner{out}, nil},
			{"from within to outside", []api.Corner{in, on, out}, []api.Corner{in, on, on, steps(plane, 256, 0)}},
		} {
			if l := atOf(t, plane, q.poly); !slices.Equal(l, q.want) {
				t.Errorf("%s: At(%d, %v) is %v, want %v", q.name, plane, q.poly, l, q.want)
			}
		}
	}
}

func TestAllTold(t *testing.T) {
	for _, q := range []struct {
		name       string
		poly, want []api.Corner
	}{
		{
			"beyond all four sides: the first corner of what is left goes on with each plane",
			[]api.Corner{at(-2000, -2000, 0, 256), at(2000, -2000, 0, 256), at(2000, 2000, 0, 256), at(-2000, 2000, 0, 256)},
			[]api.Corner{at(1024, -1024, 0, 256), at(1024, 1024, 0, 256), at(-1024, 1024, 0, 256), at(-1024, -1024, 0, 256)},
		},
		{
			"through the eye's plane, ahead of all others",
			[]api.Corner{at(0, 0, 0, 3), at(8, 0, 0, -1), at(0, 0, 0, -1)},
			[]api.Corner{at(0, 0, 0, 3), at(4, 0, 0, 1), at(0, 0, 0, 1)},
		},
		{
			"nearer than what is near, and farther than what is far",
			[]api.Corner{at(0, 0, -512, 256), at(0, 0, 512, 256), at(4, 0, 512, 256)},
			[]api.Corner{at(0, 0, -256, 256), at(0, 0, 256, 256), at(3, 0, 256, 256), at(1, 0, -256, 256)},
		},
		{"behind the eye", []api.Corner{at(0, 0, 0, -5), at(0, 0, 0, -6), at(1, 0, 0, -5)}, nil},
		{"beside all that there is", []api.Corner{at(end, 0, 0, 256), at(end, 5, 0, 256), at(end, 0, 5, 256)}, nil},
		{"within no two planes together", []api.Corner{at(end, 0, 0, 1), at(0, end, 0, 0), at(0, 0, 0, 0)}, nil},
		{"one corner in the eye", []api.Corner{at(0, 0, 0, 0)}, nil},
		{"no corner", nil, nil},
		{"one corner", []api.Corner{at(4, -4, 1, 1, 9)}, []api.Corner{at(4, -4, 1, 1, 9)}},
		{"two corners", []api.Corner{at(0, 0, 0, 9), at(72, 0, 0, 9)}, []api.Corner{at(0, 0, 0, 9), at(36, 0, 0, 9), at(36, 0, 0, 9)}},
	} {
		if l := allOf(t, q.poly); !slices.Equal(l, q.want) {
			t.Errorf("%s: All is %v, want %v", q.name, l, q.want)
		}
	}
}

// Held against cuts and polygons by other ways: at each plane, and at all.
func TestPolygonsOfMany(t *testing.T) {
	var left [17]int
	for _, poly := range polygons() {
		for plane := range 7 {
			if l, want := atOf(t, plane, poly), sifted(plane, poly); !slices.Equal(l, want) {
				t.Fatalf("At(%d, %v) is %v, want %v", plane, poly, l, want)
			}
		}
		want, _ := siftedAll(poly)
		if l := allOf(t, poly); !slices.Equal(l, want) {
			t.Fatalf("All(%v) is %v, want %v", poly, l, want)
		}
		left[min(len(want), 16)]++
	}
	for many, n := range left {
		if n == 0 && many != 1 && many != 2 {
			t.Errorf("no polygon has %d corners left", many)
		}
	}
}

// axis is which number of a place a plane asks beside W: 0: none.
func axis(plane int) int {
	return (plane + 1) / 2
}

// winding are 16 corners that go in and out of a plane again and again, and, half as often, of another one, if that asks another number.
func winding(plane, other int) []api.Corner {
	var l []api.Corner
	for i := range 16 {
		c := steps(plane, 256+i, 100+i)
		if i%2 == 0 {
			c = steps(plane, 256+i, -100-i)
		}
		if i/2%2 == 0 && axis(other) != axis(plane) {
			c.P.X += steps(other, 256, 40).P.X
			c.P.Y += steps(other, 256, 40).P.Y
			c.P.Z += steps(other, 256, 40).P.Z
		}
		c.A = [6]int{i, -i, 10 * i, -1000 * i, over - i, i - over}
		l = append(l, c)
	}
	return l
}

// A polygon that is handed in has 16 corners at most: what is left of it may have more, between two planes, and behind all.
func TestMoreCornersAreLeftThanMayBeHandedIn(t *testing.T) {
	for plane := range 7 {
		for other := range 7 {
			poly := winding(plane, other)
			if l := atOf(t, plane, poly); len(l) != 24 || !slices.Equal(l, sifted(plane, poly)) {
				t.Errorf("At(%d) leaves %d corners of those that wind, want 24: %v", plane, len(l), l)
			}
			want, many := siftedAll(poly)
			if plane == other && plane < 6 && (many != 24 || len(want) != 24) {
				t.Errorf("those that wind through %d are %d between two planes, and %d behind all, want 24", plane, many, len(want))
			}
			if l := allOf(t, poly); !slices.Equal(l, want) {
				t.Errorf("All of those that wind through %d, and %d, is %v, want %v", plane, other, l, want)
			}
		}
	}
	// Sixteen alone are at the limit, and stay.
	poly := slices.Repeat([]api.Corner{at(1, 2, 3, 256, 4)}, 16)
	if l := allOf(t, poly); !slices.Equal(l, poly) {
		t.Errorf("All of 16 corners is %v", l)
	}
	if l := atOf(t, 6, poly); !slices.Equal(l, poly) {
		t.Errorf("At of 16 corners is %v", l)
	}
}

// wrongPolygon asks At and All of what may not be, at a plane that there is.
func wrongPolygon(t *testing.T, plane int, poly []api.Corner, want api.Errno) {
	t.Helper()
	if l, e := At(plane, poly); len(l) != 0 || e != want {
		t.Fatalf("At(%d, %v) is %v, %d, want %d", plane, poly, l, e, want)
	}
	if l, e := All(poly); len(l) != 0 || e != want {
		t.Fatalf("All(%v) is %v, %d, want %d", poly, l, e, want)
	}
}

// Ahead of all that is wrong with the corners.
func TestAtOfNoPlane(t *testing.T) {
	right, wrong := at(0, 0, 0, 256), at(0, 0, least, 256)
	for _, plane := range noPlanes() {
		for _, c := range []api.Corner{right, wrong} {
			for _, many := range []int{0, 1, 3, 16, 17, 100} {
				if l, e := At(plane, slices.Repeat([]api.Corner{c}, many)); len(l) != 0 || e != api.ErrArg {
					t.Errorf("At(%d) of %d corners is %v, %d", plane, many, l, e)
				}
			}
		}
	}
}

// Ahead of that a corner may not be, wherever it stands; those that are behind the eye are counted too.
func TestTooManyCorners(t *testing.T) {
	for _, many := range []int{17, 18, 32, 256, 272, 1 << 16} {
		for plane := range 7 {
			for _, c := range []api.Corner{{}, at(0, 0, 0, 256), at(0, 0, 0, -256), at(most, 0, 0, 0), at(0, 0, 0, 1, least)} {
				wrongPolygon(t, plane, slices.Repeat([]api.Corner{c}, many), api.ErrBig)
			}
			for _, i := range []int{0, 16, many - 1} {
				poly := slices.Repeat([]api.Corner{at(0, 0, 0, 256)}, many)
				poly[i].P.X = end + 1
				wrongPolygon(t, plane, poly, api.ErrBig)
			}
		}
	}
}

// At the first, at the last, and at a middle place, of few and of many; what is left of the others says nothing.
func TestPolygonsOfWrongCorners(t *testing.T) {
	for i, wrong := range wrongCorners() {
		for _, right := range []api.Corner{at(0, 0, 0, 256), at(0, 0, 0, -256), {}} {
			for _, many := range []int{1, 2, 3, 7, 16} {
				for _, place := range []int{0, many / 2, many - 1} {
					poly := slices.Repeat([]api.Corner{right}, many)
					poly[place] = wrong
					wrongPolygon(t, i%7, poly, api.ErrRange)
				}
			}
		}
		wrongPolygon(t, i%7, []api.Corner{wrong, wrong, wrong}, api.ErrRange)
	}
	// Each plane, with numbers that the plane does not ask.
	for plane := range 7 {
		for i := range 10 {
			wrongPolygon(t, plane, []api.Corner{at(0, 0, 0, 256), with(at(0, 0, 0, 256), i, bound(i)+1)}, api.ErrRange)
			wrongPolygon(t, plane, []api.Corner{with(at(0, 0, 0, 256), i, -bound(i)-1), at(0, 0, 0, 256)}, api.ErrRange)
			for _, n := range []int{bound(i), -bound(i)} {
				poly := []api.Corner{at(0, 0, 0, 256), with(at(0, 0, 0, 256), i, n)}
				if l := atOf(t, plane, poly); !slices.Equal(l, sifted(plane, poly)) {
					t.Errorf("At(%d, %v) is %v", plane, poly, l)
				}
			}
		}
	}
}

// P15.3

// All that is left lies within the plane, and may be; of all planes, ahead of the eye.
func TestWhatIsLeftIsWithin(t *testing.T) {
	all := polygons()
	for plane := range 7 {
		all = append(all, winding(plane, plane), winding(plane, (plane+1)%7))
	}
	for _, poly := range all {
		for plane := range 7 {
			for _, c := range atOf(t, plane, poly) {
				if n := farOf(t, plane, c); n < 0 {
					t.Fatalf("At(%d, %v) leaves %v, outside by %d", plane, poly, c, -n)
				}
			}
		}
		for _, c := range allOf(t, poly) {
			if c.P.W < 1 {
				t.Fatalf("All(%v) leaves %v", poly, c)
			}
			// What is cut off at the last plane is within it.
			if n := farOf(t, 6, c); n < 0 {
				t.Fatalf("All(%v) leaves %v, below by %d", poly, c, -n)
			}
		}
	}
}

// Just so, and in order: in the middle, on each plane, on several, and as far as there is.
func TestWhatIsWithinAllStays(t *testing.T) {
	corners := []api.Corner{at(0, 0, 0, 256, 1, 2, 3, 4, 5, 6), at(0, 0, 0, 1), at(4, -4, 1, 1, -7), at(-4, 4, -1, 1, over, -over), at(1024, 1024, 256, 256)}
	for plane := range 7 {
		corners = append(corners, steps(plane, 1, 0), steps(plane, 256, 0), steps(plane, 256, -1), steps(plane, 77, -70))
	}
	corners = append(corners, at(end, end, end/4, end/4), at(-end, -end, -end, end), at(end, -end, end, end, -over), at(0, 0, 0, end))
	for from := range corners {
		for many := range 17 {
			var poly []api.Corner
			for i := range many {
				poly = append(poly, corners[(from+i*5)%len(corners)])
			}
			if l := allOf(t, poly); !slices.Equal(l, poly) {
				t.Fatalf("All(%v) is %v", poly, l)
			}
			for plane := range 7 {
				if l := atOf(t, plane, poly); !slices.Equal(l, poly) {
					t.Fatalf("At(%d, %v) is %v", plane, poly, l)
				}
			}
		}
	}
}

// What one plane takes away, whatever else is within.
func TestEachPlaneTakesAway(t *testing.T) {
	for plane := range 7 {
		poly := []api.Corner{steps(plane, 256, 1), steps(plane, 256, 5), steps(plane, 256, 900)}
		if l := allOf(t, poly); len(l) != 0 {
			t.Errorf("All of what is outside of %d is %v", plane, l)
		}
		for other := range 7 {
			l := atOf(t, other, poly)
			if other == plane && len(l) != 0 {
				t.Errorf("At(%d) of what is outside is %v", plane, l)
			}
			if other != plane && plane != 0 && !slices.Equal(l, poly) {
				t.Errorf("At(%d) of what is within, and outside of %d, is %v", other, plane, l)
			}
		}
	}
}

// P15.4

// backwards is a polygon the other way round.
func backwards(l []api.Corner) []api.Corner {
	l = slices.Clone(l)
	slices.Reverse(l)
	return l
}

// sorted is a polygon's corners, each as often as it comes, whatever their order.
func sorted(l []api.Corner) []api.Corner {
	l = slices.Clone(l)
	slices.SortFunc(l, func(a, b api.Corner) int {
		n, m := numbers(a), numbers(b)
		return slices.CompareFunc(n[:], m[:], cmp.Compare[int])
	})
	return l
}

func TestBothWays(t *testing.T) {
	all := polygons()
	for plane := range 7 {
		all = append(all, winding(plane, plane), []api.Corner{steps(plane, 9, 7), steps(plane, 7, 0), steps(plane, 5, -3)})
	}
	met := 0
	for _, poly := range all {
		for plane := range 7 {
			l, back := atOf(t, plane, poly), atOf(t, plane, backwards(poly))
			if !slices.Equal(sorted(l), sorted(back)) {
				t.Fatalf("At(%d, %v) is %v, and backwards %v", plane, poly, l, back)
			}
			// In their order too: but for which one comes first.
			turned := backwards(back)
			if len(poly) > 0 && len(l) > 0 && inside(plane, poly[0]) >= 0 != (inside(plane, poly[len(poly)-1]) >= 0) {
				turned = append(turned[1:], turned[0])
				met++
			}
			if !slices.Equal(l, turned) {
				t.Fatalf("At(%d, %v) is %v, and backwards, turned round, %v", plane, poly, l, turned)
			}
		}
	}
	if met < 1000 {
		t.Errorf("only %d polygons are cut between their last corner and their first one", met)
	}
}

// Whichever of two is the first one: each edge is cut at the same place, wherever the polygon begins.
func TestTurnedPolygons(t *testing.T) {
	for _, poly := range polygons() {
		if len(poly) < 2 {
			continue
		}
		turned := append(slices.Clone(poly[1:]), poly[0])
		for plane := range 7 {
			if l, other := atOf(t, plane, poly), atOf(t, plane, turned); !slices.Equal(sorted(l), sorted(other)) {
				t.Fatalf("At(%d, %v) is %v, and from its next corner on %v", plane, poly, l, other)
			}
		}
	}
}

// R3, R4

// What is handed in is as it was, its spare room too; what stands there is not asked.
func TestPolygonsAreNotChanged(t *testing.T) {
	for plane := range 7 {
		for many := range 17 {
			whole := append(winding(plane, (plane+1)%7)[:many:many], slices.Repeat([]api.Corner{at(most, least, 7, 8, 9)}, 40)...)
			kept := slices.Clone(whole)
			poly := whole[:many]
			for range 2 {
				if l := atOf(t, plane, poly); !slices.Equal(l, sifted(plane, kept[:many])) {
					t.Errorf("At(%d, %v) is %v", plane, poly, l)
				}
				if want, _ := siftedAll(kept[:many]); !slices.Equal(allOf(t, poly), want) {
					t.Errorf("All(%v) is not %v", poly, want)
				}
			}
			if !slices.Equal(whole, kept) {
				t.Fatalf("At %d, and All, of %d corners made %v of %v", plane, many, whole, kept)
			}
		}
	}
}

// With an error too.
func TestWrongPolygonsAreNotChanged(t *testing.T) {
	whole := append(winding(3, 4), at(1, 2, 3, 4), at(5, 6, 7, 8))
	kept := slices.Clone(whole)
	wrongPolygon(t, 3, whole[:17], api.ErrBig)
	whole[9].A[5], kept[9].A[5] = over+1, over+1
	wrongPolygon(t, 3, whole[:16], api.ErrRange)
	if !slices.Equal(whole, kept) {
		t.Errorf("the corners became %v", whole)
	}
}

// What is answered is new memory, even where nothing is cut off: it shares none with what was handed in, nor with another answer.
func TestAnswersAreNew(t *testing.T) {
	within := []api.Corner{at(0, 0, 0, 256, 1), at(1, 0, 0, 256, 2), at(0, 1, 0, 256, 3)}
	through := []api.Corner{at(0, 0, 0, 256, 1), at(2000, 0, 0, 256, 2), at(0, 2000, 0, 256, 3)}
	for _, poly := range [][]api.Corner{within, through, within[:1]} {
		kept := slices.Clone(poly)
		for plane := range 8 {
			ask := func() []api.Corner {
				if plane == 7 {
					return allOf(t, poly)
				}
				return atOf(t, plane, poly)
			}
			first, second := ask(), ask()
			want := slices.Clone(second)
			for i := range first[:cap(first)] {
				first[:cap(first)][i] = at(-1, -2, -3, -4, -5)
			}
			if !slices.Equal(poly, kept) || !slices.Equal(second, want) {
				t.Fatalf("plane %d: %v became %v, and %v became %v", plane, kept, poly, want, second)
			}
			// What is done with the polygon behind the call is not seen in what it answered.
			poly[0].P.X++
			if !slices.Equal(second, want) {
				t.Fatalf("plane %d: %v became %v", plane, want, second)
			}
			poly[0].P.X--
		}
	}
}
