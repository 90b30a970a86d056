package tri

import (
	"math"
	"math/big"
	"slices"
	"testing"

	"tempera/api"
)

const most, least = math.MaxInt, math.MinInt

const (
	// far is the greatest amount of a point's numbers.
	far = 1 << 19
	// deep is the greatest depth.
	deep = 65535
	// over is the greatest amount of a number of A.
	over = 1 << 20
	// last is the greatest number of a pixel that has a middle; the least one is -last - 1.
	last = 1<<15 - 1
)

// to is a spot, by its place on the screen, its depth, and the first ones of A.
func to(x, y, z int, a ...int) api.Spot {
	s := api.Spot{P: api.Point{X: x, Y: y}, Z: z}
	copy(s.A[:], a)
	return s
}

// three is spots, each of them another one, by their places' numbers.
func three(ax, ay, bx, by, cx, cy int) [3]api.Spot {
	return [3]api.Spot{to(ax, ay, 1000, 1, -1, 100, 0, 7, 7), to(bx, by, 2000, 2, -2, 90, 500, 7, 8), to(cx, cy, 60000, 3, -3, -80, 1, 7, 9)}
}

// places are the orders in which three may stand: first those that go round in the same way.
func places() [][3]int {
	return [][3]int{{0, 1, 2}, {1, 2, 0}, {2, 0, 1}, {0, 2, 1}, {2, 1, 0}, {1, 0, 2}}
}

// ordered is spots in another order.
func ordered(s [3]api.Spot, o [3]int) [3]api.Spot {
	return [3]api.Spot{s[o[0]], s[o[1]], s[o[2]]}
}

// swapped is spots of which the second and the third one have changed places.
func swapped(s [3]api.Spot) [3]api.Spot {
	return [3]api.Spot{s[0], s[2], s[1]}
}

// number is one of a spot's nine numbers: X, Y, Z, and those of A.
func number(s *api.Spot, i int) *int {
	switch i {
	case 0:
		return &s.P.X
	case 1:
		return &s.P.Y
	case 2:
		return &s.Z
	}
	return &s.A[i-3]
}

// bounds are what a spot's number lies between, by its place among the nine.
func bounds(i int) (int, int) {
	switch {
	case i < 2:
		return -far, far
	case i == 2:
		return 0, deep
	}
	return -over, over
}

// with is spots, one of whose numbers is another one.
func with(s [3]api.Spot, spot, i, n int) [3]api.Spot {
	*number(&s[spot], i) = n
	return s
}

// beyond are numbers beyond bounds, some of which would not be if their higher bits, or their sign, were lost.
func beyond(lo, hi int) []int {
	return []int{
		hi + 1, lo - 1, hi + 2, lo - 2, 2*hi + 1, lo - hi, 1 << 32, 1<<32 + 1, -1 << 32, -1<<32 - 1, 1 << 60, 1 << 61, 1 << 62, -1 << 62, 1<<62 + 1,
		least, least + 1, least + hi, most - hi, most - 1, most,
	}
}

// wrongCulls are numbers that are no kind of cull, some of which would be if their higher bits, or their sign, were lost.
func wrongCulls() []int {
	return []int{-1, -2, 3, 4, 5, 8, 255, 256, 257, 1 << 16, 1 << 32, 1<<32 + 1, 1<<32 + 2, -1 << 32, 1 << 62, 1<<62 + 1, least, least + 1, least + 2, most - 2, most - 1, most}
}

// wrongPlaces are numbers that no pixel with a middle has, some of which it might if their higher bits were lost, behind being taken 16 times too.
func wrongPlaces() []int {
	return []int{
		last + 1, -last - 2, last + 2, -last - 3, 1 << 16, -1 << 16, far, -far, 1 << 28, 1 << 32, 1<<32 + 1, -1 << 32, 1 << 59, 1 << 60, 1<<60 + 1, -1 << 60, -1<<60 - 1,
		1 << 61, 1 << 62, -1 << 62, least, least + 1, most - 1, most,
	}
}

// grid is places from lo on, so many to a side, so far from each other.
func grid(lo, many, step int) []api.Point {
	var l []api.Point
	for i := range many * many {
		l = append(l, api.Point{X: lo + i%many*step, Y: lo + i/many*step})
	}
	return l
}

// little are spots of little triangles, both ways round, some of them flat, whose corners and edges lie on pixels' middles, and beside them.
func little() [][3]api.Spot {
	var all [][3]api.Spot
	l := append(grid(-24, 4, 16), api.Point{X: 3, Y: -5}, api.Point{X: -17, Y: 30}, api.Point{X: 39, Y: 39}, api.Point{X: 0, Y: 0})
	for _, a := range l {
		for _, b := range l {
			for _, c := range l {
				all = append(all, three(a.X, a.Y, b.X, b.Y, c.X, c.Y))
			}
		}
	}
	return all
}

// own is the side of the third one of the first to the second, worked out without a bound, and by another formula: each spot's X times what the two others' Y are apart.
func own(s [3]api.Spot) int {
	sum := new(big.Int)
	for i := range s {
		d := big.NewInt(int64(s[(i+1)%3].P.Y - s[(i+2)%3].P.Y))
		sum.Add(sum, d.Mul(d, big.NewInt(int64(s[i].P.X))))
	}
	return int(sum.Int64())
}

// has tells whether spots of a little triangle, either way round, have a pixel, by another rule than the chapters' that comes to the same: no edge owns its line, but the pixel's middle is moved by next to nothing to the right, and by next to nothing of that downwards, so that it lies on no line any more.
func has(s [3]api.Spot, x, y int) bool {
	const whole, right, down = 1 << 24, 1 << 12, 1
	px, py := (16*x+8)*whole+right, (16*y+8)*whole+down
	above, below := 0, 0
	for i := range s {
		a, b := s[i].P, s[(i+1)%3].P
		n := (b.X-a.X)*(py-a.Y*whole) - (b.Y-a.Y)*(px-a.X*whole)
		if n > 0 {
			above++
		}
		if n < 0 {
			below++
		}
	}
	return own(s) != 0 && (above == 3 || below == 3)
}

// height is one of the nine numbers at a pixel's middle, by another rule than the chapters': the height, above that place, of the plane that goes through the spots, cut downwards.
func height(s [3]api.Spot, i, x, y int) int {
	one := func(n int) *big.Int { return big.NewInt(int64(n)) }
	apart := func(k, j int) *big.Int { return one(*number(&s[k], j) - *number(&s[0], j)) }
	det := func(a, b, c, d *big.Int) *big.Int {
		return new(big.Int).Sub(new(big.Int).Mul(a, d), new(big.Int).Mul(b, c))
	}
	whole := det(apart(1, 0), apart(1, 1), apart(2, 0), apart(2, 1))
	right := det(apart(1, i), apart(1, 1), apart(2, i), apart(2, 1))
	down := det(apart(1, 0), apart(1, i), apart(2, 0), apart(2, i))
	sum := new(big.Int).Mul(right, one(16*x+8-s[0].P.X))
	sum.Add(sum, new(big.Int).Mul(down, one(16*y+8-s[0].P.Y)))
	sum.Add(sum, new(big.Int).Mul(whole, one(*number(&s[0], i))))
	if whole.Sign() < 0 {
		whole.Neg(whole)
		sum.Neg(sum)
	}
	return int(sum.Div(sum, whole).Int64())
}

// set sets up what is not dropped.
func set(t *testing.T, s [3]api.Spot, cull int) api.Tri {
	t.Helper()
	q, is, e := Setup(s, cull)
	if !is || e != api.OK {
		t.Fatalf("Setup(%v, %d) answers %v, and the error %d", s, cull, is, e)
	}
	return q
}

// isNone holds what Setup answers against the zero triangle, false, and an error.
func isNone(t *testing.T, s [3]api.Spot, cull int, want api.Errno) {
	t.Helper()
	if q, is, e := Setup(s, cull); q != (api.Tri{}) || is || e != want {
		t.Errorf("Setup(%v, %d) is %v, %v, %d, want zeros and %d", s, cull, q, is, e, want)
	}
}

// isNothing holds what a triangle answers of a pixel against what it answers of one that it does not have.
func isNothing(t *testing.T, q api.Tri, x, y int) {
	t.Helper()
	if Has(q, x, y) {
		t.Errorf("%v has %d %d", q, x, y)
	}
	if z, a, is := At(q, x, y); z != 0 || a != [6]int{} || is {
		t.Errorf("At(%v, %d, %d) is %d, %v, %v", q, x, y, z, a, is)
	}
}

// P17.1

func TestSetupExample(t *testing.T) {
	s := three(0, 0, 0, 32, 32, 0)
	want := api.Tri{S: [3]api.Spot{s[0], s[2], s[1]}, Area: 1024, Box: api.Rect{X1: 2, Y1: 2}}
	for _, cull := range []int{0, 2} {
		if q := set(t, s, cull); q != want {
			t.Errorf("with cull %d it is %v, want %v", cull, q, want)
		}
	}
	isNone(t, s, 1, api.OK)
}

// Whichever kinds of triangles are dropped: the kinds are told by the numbers that the chapter says, too.
func TestSetupCulls(t *testing.T) {
	above, below := three(8, 8, 168, 8, 8, 168), three(8, 8, 8, 168, 168, 8)
	box := api.Rect{X1: 11, Y1: 11}
	for _, cull := range []int{0, 1, api.CullNone, api.CullBack} {
		if q := set(t, above, cull); q != (api.Tri{S: above, Area: 25600, Box: box}) {
			t.Errorf("above 0, with cull %d, it is %v", cull, q)
		}
	}
	for _, cull := range []int{0, 2, api.CullNone, api.CullFront} {
		if q := set(t, below, cull); q != (api.Tri{S: swapped(below), Area: 25600, Box: box}) {
			t.Errorf("below 0, with cull %d, it is %v", cull, q)
		}
	}
	isNone(t, above, 2, api.OK)
	isNone(t, below, 1, api.OK)
}

// Two at one place, all there, and three on a line: level, steep, slanting, from end to end, whichever stands between.
func TestSetupOfNoArea(t *testing.T) {
	for _, s := range [][3]api.Spot{
		{}, three(0, 0, 0, 0, 32, 7), three(0, 0, 32, 7, 32, 7), three(-5, 9, 1, 2, -5, 9), three(7, 7, 7, 7, 7, 7), three(far, -far, far, -far, -far, far),
		three(0, 5, 16, 5, 48, 5), three(5, 0, 5, 48, 5, 16), three(-8, -8, 8, 8, 24, 24), three(9, 0, -3, 4, 3, 2), three(-far, -far, far, far, 1, 1), three(-far, far, 0, 0, far, -far),
		three(-far, -far, far, -far, 0, -far), three(0, 0, 7, 11, -14, -22),
	} {
		for _, o := range places() {
			for cull := range 3 {
				isNone(t, ordered(s, o), cull, api.OK)
			}
		}
	}
}

// The least area that is not 0, of little triangles, and of those that are as long as may be.
func TestSetupOfLeastArea(t *testing.T) {
	for _, s := range [][3]api.Spot{three(0, 0, 1, 0, 0, 1), three(-far, -far, far, far-1, 1-far, 1-far), three(far, far, far-1, far, far, far-1), three(-far, -far, far, 1-far, far-1, 1-far)} {
		for i, o := range places() {
			isOne(t, ordered(s, o), i < 3)
		}
	}
}

// isOne holds what is set up of spots whose area is 1, or -1 where that is not above 0, against them.
func isOne(t *testing.T, s [3]api.Spot, above bool) {
	t.Helper()
	cull, want := api.CullBack, s
	if !above {
		cull, want = api.CullFront, swapped(s)
	}
	for _, c := range []int{api.CullNone, cull} {
		if q := set(t, s, c); q.S != want || q.Area != 1 {
			t.Errorf("Setup(%v, %d) is %v", s, c, q)
		}
	}
	isNone(t, s, 3-cull, api.OK)
}

// The greatest area, of points at both bounds.
func TestSetupOfGreatestArea(t *testing.T) {
	box := api.Rect{X0: -last - 1, Y0: -last - 1, X1: last + 1, Y1: last + 1}
	for _, s := range [][3]api.Spot{three(-far, -far, far, -far, -far, far), three(far, far, -far, far, far, -far), three(far, -far, far, far, -far, far), three(-far, -far, far, -far, 0, far)} {
		for i, o := range places() {
			turned := ordered(s, o)
			want := api.Tri{S: turned, Area: 1 << 40, Box: box}
			if i >= 3 {
				want.S = swapped(turned)
			}
			if q := set(t, turned, 0); q != want {
				t.Errorf("Setup(%v, 0) is %v, want %v", turned, q, want)
			}
		}
	}
}

// Depths and A at both bounds, of each spot: they come through as they are, and go with their spot.
func TestSetupKeepsSpots(t *testing.T) {
	s := three(0, 0, 32, 0, 0, 32)
	for spot := range 3 {
		for i := 2; i < 9; i++ {
			lo, hi := bounds(i)
			for _, n := range []int{lo, lo + 1, 0, 1, hi - 1, hi} {
				c := with(s, spot, i, n)
				if q := set(t, c, 0); q != (api.Tri{S: c, Area: 1024, Box: api.Rect{X1: 2, Y1: 2}}) {
					t.Errorf("Setup(%v, 0) is %v", c, q)
				}
				if q := set(t, swapped(c), 0); q != (api.Tri{S: c, Area: 1024, Box: api.Rect{X1: 2, Y1: 2}}) {
					t.Errorf("Setup(%v, 0) is %v", swapped(c), q)
				}
			}
		}
	}
}

// A point at each bound, of each spot.
func TestSetupOfPointsAtBounds(t *testing.T) {
	for spot := range 3 {
		for i := range 2 {
			for _, n := range []int{-far, 1 - far, far - 1, far} {
				c := with(three(0, 0, 32, 0, 0, 32), spot, i, n)
				area := own(c)
				if area == 0 {
					isNone(t, c, 0, api.OK)
					continue
				}
				want := c
				if area < 0 {
					want, area = swapped(c), -area
				}
				if q := set(t, c, 0); q.S != want || q.Area != area {
					t.Errorf("Setup(%v, 0) is %v", c, q)
				}
			}
		}
	}
}

// By where the outermost spots lie: on one side, on the other one, and on both; just at a middle, one part beside it, and below 0.
func TestSetupBoxTold(t *testing.T) {
	for _, c := range []struct{ lo, hi, from, to int }{
		{0, 32, 0, 2}, {7, 24, 0, 2}, {8, 24, 0, 2}, {9, 24, 1, 2}, {8, 23, 0, 1}, {8, 25, 0, 2}, {9, 23, 1, 1}, {8, 9, 0, 1}, {7, 8, 0, 1},
		// No pixel lies between.
		{9, 10, 1, 1}, {22, 23, 1, 1}, {0, 7, 0, 0}, {0, 1, 0, 0}, {-7, 7, 0, 0}, {-24 + 1, -8 - 1, -1, -1}, {far - 7, far, last + 1, last + 1}, {-far, 7 - far, -last - 1, -last - 1},
		// Below 0, where what is cut off would go up.
		{-8, 8, -1, 1}, {-9, 8, -1, 1}, {-7, 8, 0, 1}, {-16, -1, -1, 0}, {-25, -9, -2, -1}, {-24, -8, -2, 0}, {-23, -7, -1, 0}, {-23, -8, -1, 0}, {-100, -50, -6, -3}, {-1, 0, 0, 0},
		// At the screen's ends.
		{-far, far, -last - 1, last + 1}, {8 - far, far - 8, -last - 1, last + 1}, {9 - far, far - 9, -last, last}, {far - 8, far, last, last + 1}, {-far, 8 - far, -last - 1, -last},
	} {
		for _, o := range places() {
			boxIs(t, ordered(three(c.lo, -40, c.hi, 40, c.lo, 56), o), api.Rect{X0: c.from, Y0: -3, X1: c.to, Y1: 4})
			boxIs(t, ordered(three(c.hi, -40, c.lo, 40, c.hi, 56), o), api.Rect{X0: c.from, Y0: -3, X1: c.to, Y1: 4})
			boxIs(t, ordered(three(-40, c.lo, 40, c.hi, 56, c.lo), o), api.Rect{X0: -3, Y0: c.from, X1: 4, Y1: c.to})
			boxIs(t, ordered(three(-40, c.hi, 40, c.lo, 56, c.hi), o), api.Rect{X0: -3, Y0: c.from, X1: 4, Y1: c.to})
			boxIs(t, ordered(three(c.lo, c.lo, c.hi, c.lo, c.lo, c.hi), o), api.Rect{X0: c.from, Y0: c.from, X1: c.to, Y1: c.to})
		}
	}
}

// boxIs holds spots' Box against what is wanted.
func boxIs(t *testing.T, s [3]api.Spot, want api.Rect) {
	t.Helper()
	if q := set(t, s, 0); q.Box != want {
		t.Errorf("the Box of %v is %v, want %v", s, q.Box, want)
	}
}

// Held against middles that are gone through one by one, for spots that lie in the middle too.
func TestSetupBoxOfMany(t *testing.T) {
	for lo := -41; lo < 41; lo++ {
		for hi := lo + 1; hi < lo+41; hi++ {
			from, to := -9, 9
			for 16*from+8 < lo {
				from++
			}
			for 16*to+8 > hi {
				to--
			}
			between := (lo + hi) / 2
			boxIs(t, three(lo, between, hi, lo, between, hi), api.Rect{X0: from, Y0: from, X1: to + 1, Y1: to + 1})
		}
	}
}

// All orders of little triangles: what is told of them is the same, and the first spot stays the first one.
func TestSetupOfMany(t *testing.T) {
	for _, s := range little() {
		area := own(s)
		for cull := range 3 {
			if area == 0 || area < 0 && cull == 1 || area > 0 && cull == 2 {
				isNone(t, s, cull, api.OK)
				continue
			}
			want := s
			if area < 0 {
				want = swapped(s)
			}
			if q := set(t, s, cull); q.S != want || q.Area != max(area, -area) {
				t.Errorf("Setup(%v, %d) is %v", s, cull, q)
			}
		}
	}
}

// Each number of each spot, beyond its bounds, whatever the cull, and whether the triangle were dropped or not.
func TestSetupOfWrongSpots(t *testing.T) {
	for _, s := range [][3]api.Spot{three(0, 0, 32, 0, 0, 32), three(0, 0, 0, 32, 32, 0), {}, three(-8, -8, 8, 8, 24, 24), three(-far, -far, far, -far, -far, far)} {
		for spot := range 3 {
			for i := range 9 {
				lo, hi := bounds(i)
				for _, n := range beyond(lo, hi) {
					for cull := range 3 {
						isNone(t, with(s, spot, i, n), cull, api.ErrRange)
					}
				}
			}
		}
	}
	// Depths end at 0.
	for spot := range 3 {
		for _, n := range []int{-1, -2, -deep, -deep - 1, deep + 1} {
			isNone(t, with(three(0, 0, 32, 0, 0, 32), spot, 2, n), 0, api.ErrRange)
		}
	}
}

// In several of them, which are together what might be.
func TestSetupOfSeveralWrongSpots(t *testing.T) {
	for i := range 9 {
		lo, hi := bounds(i)
		for _, n := range beyond(lo, hi) {
			s := three(0, 0, 32, 0, 0, 32)
			isNone(t, with(with(s, 0, i, n), 1, i, -n), 0, api.ErrRange)
			isNone(t, with(with(with(s, 0, i, n), 1, i, n), 2, i, n), 1, api.ErrRange)
		}
	}
	all := api.Spot{P: api.Point{X: most, Y: least}, Z: least, A: [6]int{most, least, most, least, most, least}}
	isNone(t, [3]api.Spot{all, all, all}, 2, api.ErrRange)
}

// The cull is asked first: also where a spot may not be, and where the triangle has no area.
func TestSetupOfWrongCulls(t *testing.T) {
	flat, right := three(-8, -8, 8, 8, 24, 24), three(0, 0, 32, 0, 0, 32)
	for _, cull := range wrongCulls() {
		for _, s := range [][3]api.Spot{{}, flat, right, swapped(right), with(right, 0, 0, far+1), with(right, 2, 2, -1), with(right, 1, 8, over+1), with(flat, 0, 1, least), with(right, 1, 2, most)} {
			isNone(t, s, cull, api.ErrKind)
		}
	}
}

// P17.2

// The pixels that it has are marked, from 0 0 on.
func TestHasTold(t *testing.T) {
	for _, c := range []struct {
		s    [3]api.Spot
		rows []string
	}{
		// Edges on no middle.
		{three(0, 0, 64, 0, 0, 64), []string{"###..", "##...", "#....", ".....", "....."}},
		// The left and the upper edge lie on middles, and own their lines; the slanting one does not.
		{three(8, 8, 72, 8, 8, 72), []string{"####.", "###..", "##...", "#....", "....."}},
		// One part beside: the left edge, and the upper one.
		{three(9, 8, 72, 8, 9, 71), []string{".###.", ".##..", ".#...", ".....", "....."}},
		{three(8, 9, 71, 9, 8, 72), []string{".....", "###..", "##...", "#....", "....."}},
		// The right and the lower edge lie on middles, and do not own their lines; the slanting one does.
		{three(72, 8, 72, 72, 8, 72), []string{".....", "...#.", "..##.", ".###.", "....."}},
		// One part beside, so that middles lie within.
		{three(73, 7, 73, 73, 7, 73), []string{"....#", "...##", "..###", ".####", "#####"}},
		// Slanting the other way: both on middles.
		{three(8, 8, 72, 72, 8, 72), []string{".....", "#....", "##...", "###..", "....."}},
		{three(8, 8, 72, 8, 72, 72), []string{"####.", ".###.", "..##.", "...#.", "....."}},
		// A middle within that no other one lies beside.
		{three(23, 23, 27, 23, 23, 27), []string{".....", ".#...", ".....", ".....", "....."}},
		// None: between middles.
		{three(9, 9, 23, 9, 9, 23), []string{".....", ".....", ".....", ".....", "....."}},
	} {
		for _, o := range places() {
			rowsAre(t, set(t, ordered(c.s, o), 0), c.rows)
		}
	}
}

// rowsAre holds what a triangle has against rows of marks.
func rowsAre(t *testing.T, q api.Tri, rows []string) {
	t.Helper()
	for y, row := range rows {
		for x, mark := range row {
			if want := mark == '#'; Has(q, x, y) != want {
				t.Errorf("Has(%v, %d, %d) is not %v", q, x, y, want)
			}
		}
	}
}

// Which pixels: held against middles that lie on no line, whichever spot comes first, and whichever way round.
func TestHasOfMany(t *testing.T) {
	met := 0
	for _, s := range little() {
		q, is, _ := Setup(s, 0)
		for _, p := range grid(-3, 8, 1) {
			want := has(s, p.X, p.Y)
			if Has(q, p.X, p.Y) != want {
				t.Fatalf("Has(%v, %d, %d) is not %v", q, p.X, p.Y, want)
			}
			if want {
				met++
			}
			if want && !is {
				t.Fatalf("%v is dropped", s)
			}
		}
	}
	if met < 1000 {
		t.Errorf("only %d pixels were met", met)
	}
}

// What it has hangs on its spots' points alone: on no depth, and on no A.
func TestHasOfPoints(t *testing.T) {
	s := three(-9, 4, 40, 12, 3, 60)
	q := set(t, s, 0)
	for spot := range 3 {
		for i := 2; i < 9; i++ {
			lo, hi := bounds(i)
			for _, n := range []int{lo, hi} {
				other := set(t, with(s, spot, i, n), 0)
				for _, p := range grid(-2, 7, 1) {
					if Has(q, p.X, p.Y) != Has(other, p.X, p.Y) {
						t.Errorf("with %d as number %d of spot %d, %v is another one", n, i, spot, p)
					}
				}
			}
		}
	}
}

// Where the pixels that have a middle end: the triangles have all of the screen on one side of its diagonals.
func TestHasAtTheScreensEnds(t *testing.T) {
	upper := set(t, three(-far, -far, far, -far, -far, far), 1)
	lower := set(t, three(far, far, -far, far, far, -far), 1)
	for _, c := range []struct {
		x, y         int
		upper, lower bool
	}{
		{-last - 1, -last - 1, true, false}, {last, last, false, true}, {0, 0, false, true}, {-1, 0, false, true}, {-1, -1, true, false}, {0, -2, true, false},
		// On the diagonal between: its lower side owns it.
		{last, -last - 1, false, true}, {-last - 1, last, false, true}, {last - 1, -last - 1, true, false}, {-last - 1, last - 1, true, false}, {last, -last, false, true}, {-last, last, false, true},
	} {
		if Has(upper, c.x, c.y) != c.upper || Has(lower, c.x, c.y) != c.lower {
			t.Errorf("%d %d: above %v, below %v", c.x, c.y, Has(upper, c.x, c.y), Has(lower, c.x, c.y))
		}
	}
}

// In each place, and in both: where a number comes round to one that has a middle, too.
func TestNothingBeyondTheScreen(t *testing.T) {
	for _, s := range [][3]api.Spot{three(-far, -far, far, -far, -far, far), three(far, far, -far, far, far, -far), three(-50, -50, 90, -50, -50, 90), three(far-20, far-20, far, far-20, far, far)} {
		q := set(t, s, 0)
		for _, n := range wrongPlaces() {
			for _, m := range []int{-last - 1, -2, -1, 0, 1, last} {
				isNothing(t, q, n, m)
				isNothing(t, q, m, n)
			}
			isNothing(t, q, n, n)
			isNothing(t, q, n, -n)
		}
	}
}

// Triangles that share an edge, in whichever order their spots come: each pixel of both is had once.
func TestHasOnce(t *testing.T) {
	corners := [4]api.Point{{X: 8, Y: 8}, {X: 104, Y: 24}, {X: 88, Y: 104}, {X: -8, Y: 72}}
	for _, middle := range append(grid(40, 4, 8), api.Point{X: 56, Y: 57}) {
		for turn := range 2 {
			for _, p := range grid(-2, 10, 1) {
				if n := howOften(t, corners, middle, turn, p); n > 1 || n == 0 && wellWithin(p) {
					t.Errorf("round %v, %v is had %d times", middle, p, n)
				}
			}
		}
	}
}

// howOften counts those of four triangles round a point that have a pixel.
func howOften(t *testing.T, corners [4]api.Point, middle api.Point, turn int, p api.Point) int {
	t.Helper()
	n := 0
	for i, a := range corners {
		b := corners[(i+1)%4]
		s := three(a.X, a.Y, b.X, b.Y, middle.X, middle.Y)
		if i%2 == turn {
			s = swapped(s)
		}
		if Has(set(t, s, 0), p.X, p.Y) {
			n++
		}
	}
	return n
}

// wellWithin tells whether a pixel lies in the midst of the four corners that TestHasOnce goes round.
func wellWithin(p api.Point) bool {
	return p.X >= 1 && p.X <= 4 && p.Y >= 2 && p.Y <= 4
}

func TestAtTold(t *testing.T) {
	// As wide as high: 8 pixels, from middle to middle.
	s := [3]api.Spot{to(8, 8, 0, 80, -80, 0, 7, over, -over), to(136, 8, deep, 0, 0, 80, 7, over, -over), to(8, 136, 0, 160, -160, -80, 7, over, -over)}
	for _, c := range []struct{ x, y, z, red, green, blue int }{
		// At a corner that it has, which has all.
		{0, 0, 0, 80, -80, 0},
		// On the upper edge, and on the left one: the spot across has nothing to say.
		{1, 0, 8191, 70, -70, 10}, {4, 0, 32767, 40, -40, 40}, {7, 0, 57343, 10, -10, 70}, {0, 1, 0, 90, -90, -10}, {0, 4, 0, 120, -120, -40}, {0, 7, 0, 150, -150, -70},
		// Within.
		{1, 1, 8191, 80, -80, 0}, {2, 4, 16383, 100, -100, -20}, {4, 3, 32767, 70, -70, 10},
	} {
		for _, o := range places() {
			q := set(t, ordered(s, o), 0)
			z, a, is := At(q, c.x, c.y)
			if want := [6]int{c.red, c.green, c.blue, 7, over, -over}; z != c.z || a != want || !is {
				t.Errorf("At %d %d, in the order %v, is %d, %v, %v, want %d, %v", c.x, c.y, o, z, a, is, c.z, want)
			}
		}
	}
	// On the slanting edge, beyond it, and at its ends.
	for _, p := range []api.Point{{X: 8, Y: 0}, {X: 0, Y: 8}, {X: 4, Y: 4}, {X: 5, Y: 4}, {X: -1, Y: 0}, {X: 0, Y: -1}, {X: 9, Y: 0}, {X: -1, Y: -1}} {
		isNothing(t, set(t, s, 0), p.X, p.Y)
	}
}

// Cut downwards, below 0 too, and the whole sum: thirds and halves.
func TestAtIsCut(t *testing.T) {
	// The middle of 0 0 has the same weight of all three.
	thirds := [3]api.Spot{to(8, 0, 0, 1, -1, 0, 1, -1, 1), to(16, 16, 0, 0, 0, 0, 1, -1, 0), to(0, 8, 5, 0, 0, -1, 0, 0, -1)}
	q := set(t, thirds, 0)
	if z, a, is := At(q, 0, 0); z != 1 || a != [6]int{0, -1, -1, 0, -1, 0} || !is {
		t.Errorf("thirds: %d, %v, %v", z, a, is)
	}
	// It lies on the left edge, halfway.
	halves := [3]api.Spot{to(8, 16, 1, 1, -1, 3, -3, over, 1-over), to(8, 0, 0, 0, 0, 0, 0, over-1, -over), to(48, 8, deep, 9, 9, 9, 9, 9, 9)}
	q = set(t, halves, 0)
	if z, a, is := At(q, 0, 0); z != 0 || a != [6]int{0, -1, 1, -2, over - 1, -over} || !is {
		t.Errorf("halves: %d, %v, %v", z, a, is)
	}
}

// Held against planes without a bound, for each number; nothing elsewhere.
func TestAtOfMany(t *testing.T) {
	for n, s := range little() {
		// Each third one, with numbers that hang on the triangle.
		if n%3 != 0 {
			continue
		}
		for i := 2; i < 9; i++ {
			lo, hi := bounds(i)
			s = with(with(s, n%2, i, lo+(n*7919+i*31)%(hi-lo)), 2, i, hi-(n*104729+i*17)%(hi-lo))
		}
		q, is, _ := Setup(s, 0)
		if !is {
			continue
		}
		for _, p := range grid(-3, 7, 1) {
			atIs(t, q, s, p.X, p.Y)
		}
	}
}

// atIs holds what a little triangle has at a pixel against its spots, as they were handed in.
func atIs(t *testing.T, q api.Tri, s [3]api.Spot, x, y int) {
	t.Helper()
	if !has(s, x, y) {
		isNothing(t, q, x, y)
		return
	}
	z, a, is := At(q, x, y)
	got := append([]int{z}, a[:]...)
	var want []int
	for i := 2; i < 9; i++ {
		want = append(want, height(s, i, x, y))
	}
	if !is || !Has(q, x, y) || !slices.Equal(got, want) {
		t.Fatalf("At(%v, %d, %d) is %v, %v, want %v", q, x, y, got, is, want)
	}
}

// The greatest triangles, with the greatest numbers: their products are no int.
func TestAtOfGreatest(t *testing.T) {
	for _, s := range [][3]api.Spot{
		{to(-far, -far, deep, over, -over, over, -over, over, -over), to(far, -far, 0, -over, over, over, -over, over-1, 1-over), to(-far, far, deep, over, -over, -over, over, over, -over)},
		{to(far, far, 0, over, -over, over, over, 1, -1), to(-far, far, deep, over, -over, -over, -over, 0, 0), to(far, -far, 1, -over, over, over, -over, -1, 1)},
	} {
		q := set(t, s, 1)
		for _, p := range []api.Point{{X: -last - 1, Y: -last - 1}, {X: last, Y: last}, {X: -1, Y: -1}, {X: 0, Y: 0}, {X: last, Y: -last - 1}, {X: last - 1, Y: -last - 1}, {X: -last - 1, Y: last}, {X: -last - 1, Y: last - 1}, {X: -20000, Y: 123}, {X: 20000, Y: -123}} {
			z, a, is := At(q, p.X, p.Y)
			if is != Has(q, p.X, p.Y) {
				t.Errorf("At(%v) is %v", p, is)
			}
			if !is {
				isNothing(t, q, p.X, p.Y)
				continue
			}
			for i, n := range append([]int{z}, a[:]...) {
				if want := height(s, i+2, p.X, p.Y); n != want {
					t.Errorf("At(%v) has %d as number %d, want %d", p, n, i, want)
				}
			}
		}
	}
}

// The same numbers at all spots are the same at each pixel: both bounds, and what lies between.
func TestAtOfOneColour(t *testing.T) {
	for _, c := range []api.Spot{to(0, 0, 0, over, -over, over, 1-over, over-1, 1), to(0, 0, deep, -over, -1, 0, 1, 255, over)} {
		for _, s := range little() {
			for i := range s {
				s[i].Z, s[i].A = c.Z, c.A
			}
			q, _, _ := Setup(s, 0)
			for _, p := range grid(-2, 5, 1) {
				if z, a, is := At(q, p.X, p.Y); is && (z != c.Z || a != c.A) {
					t.Fatalf("At(%v, %v) is %d, %v", q, p, z, a)
				}
			}
		}
	}
}

// A triangle that Setup dropped has nothing.
func TestNothingOfDropped(t *testing.T) {
	for _, s := range [][3]api.Spot{{}, three(0, 0, 32, 0, 0, 32), three(-8, -8, 8, 8, 24, 24)} {
		q, is, _ := Setup(s, api.CullFront)
		if is {
			t.Errorf("%v is not dropped", s)
		}
		for _, p := range grid(-1, 4, 1) {
			isNothing(t, q, p.X, p.Y)
		}
	}
}

// P17.3

// Far about each triangle: what it has lies in its Box, and between what its spots have.
func TestWithinOfMany(t *testing.T) {
	met := 0
	for n, s := range little() {
		for i := 2; i < 9; i++ {
			lo, hi := bounds(i)
			s = with(with(s, n%3, i, lo+(n*6151+i)%(hi-lo)), (n+1)%3, i, hi-(n*12289+i)%(hi-lo))
		}
		q, is, _ := Setup(s, 0)
		if !is {
			continue
		}
		for _, p := range grid(-4, 9, 1) {
			if Has(q, p.X, p.Y) {
				met++
				liesWithin(t, q, p.X, p.Y)
			}
		}
	}
	if met < 1000 {
		t.Errorf("only %d pixels were met", met)
	}
}

// liesWithin holds a pixel that a triangle has against its Box, and what it has there against its spots.
func liesWithin(t *testing.T, q api.Tri, x, y int) {
	t.Helper()
	if x < q.Box.X0 || x >= q.Box.X1 || y < q.Box.Y0 || y >= q.Box.Y1 {
		t.Fatalf("%v has %d %d", q, x, y)
	}
	z, a, is := At(q, x, y)
	for i, n := range append([]int{z}, a[:]...) {
		l := []int{*number(&q.S[0], i+2), *number(&q.S[1], i+2), *number(&q.S[2], i+2)}
		if !is || n < slices.Min(l) || n > slices.Max(l) {
			t.Fatalf("At(%v, %d, %d) has %d as number %d, %v", q, x, y, n, i, is)
		}
	}
}

// At the screen's ends, and of triangles that are long and thin.
func TestWithinOfGreat(t *testing.T) {
	for _, s := range [][3]api.Spot{
		three(-far, -far, far, -far, -far, far), three(far, far, -far, far, far, -far), three(-far, -far, far, far, far, far-16), three(-far, far, 8-far, far, far, -far), three(far-24, -far, far, -far, far-8, far),
	} {
		q := set(t, s, 0)
		met := 0
		for _, p := range append(grid(-last-1, 16, 4369), append(grid(-last-1, 5, 1), grid(last-4, 5, 1)...)...) {
			for _, c := range []api.Point{p, {X: p.X, Y: p.X}, {X: p.X, Y: -1 - p.X}, {X: last, Y: p.Y}, {X: last - 1, Y: p.Y}} {
				if Has(q, c.X, c.Y) {
					met++
					liesWithin(t, q, c.X, c.Y)
				}
			}
		}
		if met == 0 {
			t.Errorf("%v has none of the pixels", q)
		}
	}
}

// A Box is no wider than it has to be: where triangles lie with edges along their Box, there are pixels on all its sides.
func TestBoxIsMet(t *testing.T) {
	s := three(-25, -25, 153, -25, -25, 153)
	q := set(t, s, 0)
	left, upper := 0, 0
	for n := q.Box.X0; n < q.Box.X1; n++ {
		if Has(q, q.Box.X0, n) {
			left++
		}
		if Has(q, n, q.Box.Y0) {
			upper++
		}
	}
	if left == 0 || upper == 0 {
		t.Errorf("%v has %d pixels on its left, and %d on its upper side", q, left, upper)
	}
}
