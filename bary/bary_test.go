package bary

import (
	"math"
	"math/big"
	"testing"

	"tempera/api"
)

const most, least = math.MaxInt, math.MinInt

const (
	// far is the greatest amount of a point's numbers.
	far = 1 << 19
	// heavy is the greatest weight.
	heavy = 1 << 42
	// high is the greatest amount of a number that is mixed.
	high = 1 << 30
)

// of is a point, by its numbers.
func of(x, y int) api.Point {
	return api.Point{X: x, Y: y}
}

// three is a triangle, by its points' numbers.
func three(ax, ay, bx, by, cx, cy int) [3]api.Point {
	return [3]api.Point{of(ax, ay), of(bx, by), of(cx, cy)}
}

// grid is points from lo on, so many to a side, so far from each other.
func grid(lo, many, step int) []api.Point {
	var l []api.Point
	for i := range many * many {
		l = append(l, of(lo+i%many*step, lo+i/many*step))
	}
	return l
}

// triples are all threes of some numbers.
func triples(l ...int) [][3]int {
	var all [][3]int
	for _, a := range l {
		for _, b := range l {
			for _, c := range l {
				all = append(all, [3]int{a, b, c})
			}
		}
	}
	return all
}

// places are the orders in which three may stand.
func places() [][3]int {
	return [][3]int{{0, 1, 2}, {0, 2, 1}, {1, 0, 2}, {1, 2, 0}, {2, 0, 1}, {2, 1, 0}}
}

// wrongPoints are points with a number, or both, that may not be, some of which might if their higher bits, or their sign, were lost.
func wrongPoints() []api.Point {
	var l []api.Point
	for _, n := range []int{far + 1, -far - 1, far + 16, 1 << 20, -1 << 20, 1 << 31, 1 << 32, -1 << 32, 1<<32 + 1, 1 << 62, -1 << 62, least, least + 1, most - 1, most} {
		l = append(l, of(n, 0), of(0, n), of(n, far), of(-far, n), of(n, n), of(n, least), of(most, n))
	}
	return l
}

// wrongWeights are numbers that are not from 0 to 2^42, some of which would be if their higher bits, or their sign, were lost.
func wrongWeights() []int {
	return []int{
		-1, -2, heavy + 1, -heavy, -heavy - 1, heavy + 2, 1 << 43, 1 << 60, 1<<60 + 1, 1 << 61, 1 << 62, 1<<62 + 1, -1 << 32, -1 << 62,
		least, least + 1, least + heavy, most - heavy, most - 1, most,
	}
}

// wrongNumbers are numbers that are not from -2^30 to 2^30, some of which would be if their higher bits were lost.
func wrongNumbers() []int {
	return []int{
		high + 1, -high - 1, high + 2, 1 << 31, -1 << 31, 1 << 32, 1<<32 + 1, -1 << 32, -1<<32 - 1, 1 << 42, -1 << 42, 1 << 62, -1 << 62,
		least, least + 1, least + high, most - high, most - 1, most,
	}
}

// wholeSide is the side of c of a to b, without a bound.
func wholeSide(a, b, c api.Point) *big.Int {
	times := func(n, m int) *big.Int { return new(big.Int).Mul(big.NewInt(int64(n)), big.NewInt(int64(m))) }
	return new(big.Int).Sub(times(b.X-a.X, c.Y-a.Y), times(b.Y-a.Y, c.X-a.X))
}

// mixed is what three numbers mix to, without a bound: by way of a remainder that is not below 0.
func mixed(w, v [3]int) int {
	sum, whole := new(big.Int), new(big.Int)
	for i := range w {
		n := big.NewInt(int64(w[i]))
		whole.Add(whole, n)
		sum.Add(sum, n.Mul(n, big.NewInt(int64(v[i]))))
	}
	return int(sum.Div(sum, whole).Int64())
}

// weights asks Weights of what may be.
func weights(t *testing.T, q [3]api.Point, p api.Point) [3]int {
	t.Helper()
	w, e := Weights(q, p)
	if e != api.OK {
		t.Fatalf("Weights(%v, %v) has the error %d", q, p, e)
	}
	return w
}

// mix asks Mix of what may be.
func mix(t *testing.T, w, v [3]int) int {
	t.Helper()
	n, e := Mix(w, v)
	if e != api.OK {
		t.Fatalf("Mix(%v, %v) has the error %d", w, v, e)
	}
	return n
}

// P13.1

func TestWeightsTold(t *testing.T) {
	right := three(0, 0, 32, 0, 0, 32)
	left := three(0, 0, 0, 32, 32, 0)
	for _, c := range []struct {
		q    [3]api.Point
		p    api.Point
		want [3]int
	}{
		// Within: each corner has another weight.
		{right, of(4, 8), [3]int{640, 128, 256}}, {right, of(8, 4), [3]int{640, 256, 128}}, {right, of(20, 8), [3]int{128, 640, 256}},
		// At the corners, which have all.
		{right, of(0, 0), [3]int{1024, 0, 0}}, {right, of(32, 0), [3]int{0, 1024, 0}}, {right, of(0, 32), [3]int{0, 0, 1024}},
		// On each edge: the corner beside it has none.
		{right, of(8, 0), [3]int{768, 256, 0}}, {right, of(8, 24), [3]int{0, 256, 768}}, {right, of(0, 8), [3]int{768, 0, 256}},
		// Beside each edge, and beyond each corner: those that it lies away from are below 0.
		{right, of(8, -8), [3]int{1024, 256, -256}}, {right, of(32, 32), [3]int{-1024, 1024, 1024}}, {right, of(-8, 8), [3]int{1024, -256, 256}},
		{right, of(-8, -8), [3]int{1536, -256, -256}}, {right, of(64, -16), [3]int{-512, 2048, -512}}, {right, of(-16, 64), [3]int{-512, -512, 2048}},
		// The other way round: below 0 within.
		{left, of(4, 8), [3]int{-640, -256, -128}}, {left, of(0, 0), [3]int{-1024, 0, 0}}, {left, of(32, 32), [3]int{1024, -1024, -1024}},
		// Of no area: a line, with a point beside it, and one on it; a point.
		{three(0, 0, 16, 0, 48, 0), of(5, 1), [3]int{32, -48, 16}}, {three(0, 0, 16, 0, 48, 0), of(5, 0), [3]int{}},
		{three(7, 7, 7, 7, 7, 7), of(1, 9), [3]int{}}, {[3]api.Point{}, of(0, 0), [3]int{}},
	} {
		if w := weights(t, c.q, c.p); w != c.want {
			t.Errorf("Weights(%v, %v) is %v, want %v", c.q, c.p, w, c.want)
		}
	}
}

// The greatest and the least weights that there are.
func TestWeightsAtTheScreensEnds(t *testing.T) {
	const all = 1 << 40
	upper := three(-far, -far, far, -far, -far, far)
	lower := three(far, far, -far, far, far, -far)
	for _, c := range []struct {
		q    [3]api.Point
		p    api.Point
		want [3]int
	}{
		{upper, of(-far, -far), [3]int{all, 0, 0}}, {upper, of(far, -far), [3]int{0, all, 0}}, {upper, of(-far, far), [3]int{0, 0, all}}, {upper, of(far, far), [3]int{-all, all, all}},
		{lower, of(far, far), [3]int{all, 0, 0}}, {lower, of(-far, -far), [3]int{-all, all, all}}, {upper, of(0, 0), [3]int{0, all / 2, all / 2}},
		// An edge from end to end, with points on both sides of it.
		{three(far, -far, -far, far, 0, 0), of(far, far), [3]int{all / 2, all / 2, -all}}, {three(far, -far, -far, far, 0, 0), of(-far, -far), [3]int{-all / 2, -all / 2, all}},
	} {
		if w := weights(t, c.q, c.p); w != c.want {
			t.Errorf("Weights(%v, %v) is %v, want %v", c.q, c.p, w, c.want)
		}
	}
}

// Held against sides without a bound: each of them, and all together, which are the triangle's own one.
func TestWeightsOfMany(t *testing.T) {
	l := append(grid(-far, 3, far), of(1, 0), of(-7, 9))
	for _, a := range l {
		for _, b := range l {
			for _, c := range l {
				for _, p := range l {
					weightsAgainstSides(t, [3]api.Point{a, b, c}, p)
				}
			}
		}
	}
}

func weightsAgainstSides(t *testing.T, q [3]api.Point, p api.Point) {
	t.Helper()
	a, b, c := q[0], q[1], q[2]
	w := weights(t, q, p)
	for i, want := range []*big.Int{wholeSide(b, c, p), wholeSide(c, a, p), wholeSide(a, b, p)} {
		if want.Cmp(big.NewInt(int64(w[i]))) != 0 {
			t.Fatalf("Weights(%v, %v)[%d] is %d, want %v", q, p, i, w[i], want)
		}
	}
	if own := wholeSide(a, b, c); own.Cmp(big.NewInt(int64(w[0]+w[1]+w[2]))) != 0 {
		t.Fatalf("Weights(%v, %v) is %v, want %v together", q, p, w, own)
	}
}

// By another rule than the chapter's: the corners, weighed, stand together where the point does.
func TestWeightsBalance(t *testing.T) {
	corners := grid(-24, 4, 17)
	points := append(grid(-40, 5, 23), of(far, -far))
	for _, a := range corners {
		for _, b := range corners {
			for _, c := range corners {
				for _, p := range points {
					w := weights(t, [3]api.Point{a, b, c}, p)
					whole := w[0] + w[1] + w[2]
					x, y := w[0]*a.X+w[1]*b.X+w[2]*c.X, w[0]*a.Y+w[1]*b.Y+w[2]*c.Y
					if x != whole*p.X || y != whole*p.Y {
						t.Fatalf("Weights(%v, %v, %v at %v) is %v", a, b, c, p, w)
					}
				}
			}
		}
	}
}

// Whichever corner comes first, it has the same weight; if two change places, all have the other sign.
func TestWeightsTurned(t *testing.T) {
	q := three(-9, 4, 40, 12, 3, 60)
	for _, p := range append(grid(-32, 6, 15), q[0], of(far, far)) {
		w := weights(t, q, p)
		for i, s := range places() {
			sign := 1
			if i == 1 || i == 2 || i == 5 {
				sign = -1
			}
			want := [3]int{sign * w[s[0]], sign * w[s[1]], sign * w[s[2]]}
			if got := weights(t, [3]api.Point{q[s[0]], q[s[1]], q[s[2]]}, p); got != want {
				t.Errorf("Weights in the order %v at %v is %v, want %v", s, p, got, want)
			}
		}
	}
}

// In each of the four places, and in several.
func TestWeightsOfWrongPoints(t *testing.T) {
	for _, w := range wrongPoints() {
		for _, c := range [][4]api.Point{
			{w, of(32, 0), of(0, 32), of(8, 8)}, {of(0, 0), w, of(0, 32), of(8, 8)}, {of(0, 0), of(32, 0), w, of(8, 8)}, {of(0, 0), of(32, 0), of(0, 32), w},
			{w}, {1: w}, {2: w}, {3: w}, {w, w, w, w}, {w, w, w}, {of(far, far), of(far, far), w, w}, {of(-far, far), w, of(far, far), w},
		} {
			if got, e := Weights([3]api.Point{c[0], c[1], c[2]}, c[3]); got != [3]int{} || e != api.ErrRange {
				t.Errorf("Weights(%v) is %v, %d", c, got, e)
			}
		}
	}
}

// P13.2

func TestMixTold(t *testing.T) {
	for _, c := range []struct {
		w, v [3]int
		want int
	}{
		{[3]int{1, 1, 2}, [3]int{0, 4, 3}, 2},
		// One alone has a weight: its number stands.
		{[3]int{1, 0, 0}, [3]int{-7, 5, 5}, -7}, {[3]int{0, 1, 0}, [3]int{5, -7, 5}, -7}, {[3]int{0, 0, 1}, [3]int{5, 5, -7}, -7},
		{[3]int{9, 0, 0}, [3]int{3, -high, high}, 3}, {[3]int{0, 0, heavy}, [3]int{high, -high, 0}, 0},
		// Cut downwards, below 0 too: neither towards 0, nor to the nearest one.
		{[3]int{1, 1, 0}, [3]int{-1, 0, 9}, -1}, {[3]int{1, 1, 0}, [3]int{1, 0, 9}, 0}, {[3]int{1, 99, 0}, [3]int{-1, 0, 0}, -1}, {[3]int{99, 1, 0}, [3]int{1, 0, 0}, 0},
		{[3]int{99, 1, 0}, [3]int{-1, 0, 0}, -1}, {[3]int{1, 1, 1}, [3]int{-7, -7, -6}, -7}, {[3]int{1, 1, 1}, [3]int{7, 7, 6}, 6}, {[3]int{2, 2, 2}, [3]int{-1, -1, -1}, -1},
		// The whole sum is cut, not each part of it.
		{[3]int{1, 1, 1}, [3]int{1, 1, 1}, 1}, {[3]int{1, 1, 1}, [3]int{-1, -1, 0}, -1}, {[3]int{1, 1, 1}, [3]int{2, 2, 2}, 2}, {[3]int{1, 2, 4}, [3]int{7, 7, 7}, 7},
		{[3]int{1, 1, 1}, [3]int{-1, 1, 0}, 0}, {[3]int{3, 4, 5}, [3]int{100, -10, 1}, 22},
		// The greatest weights and numbers, together beyond an int.
		{[3]int{heavy, heavy, heavy}, [3]int{high, high, high}, high}, {[3]int{heavy, heavy, heavy}, [3]int{-high, -high, -high}, -high},
		{[3]int{heavy, heavy, 0}, [3]int{high, -high, 1}, 0}, {[3]int{heavy, heavy, heavy}, [3]int{high, high, -high}, 357913941}, {[3]int{heavy, heavy, heavy}, [3]int{-high, high, -high}, -357913942},
		{[3]int{heavy, 1, 0}, [3]int{high, high - 1, 0}, high - 1}, {[3]int{heavy, 1, 0}, [3]int{-high, 1 - high, 0}, -high}, {[3]int{heavy, 1, 0}, [3]int{0, -1, 0}, -1}, {[3]int{heavy, 1, 0}, [3]int{0, 1, 0}, 0},
		{[3]int{heavy, 1, 1}, [3]int{1 - high, -high, -high}, -high}, {[3]int{1, 0, heavy - 1}, [3]int{high, 3, -high}, -high},
	} {
		for _, s := range places() {
			w, v := [3]int{c.w[s[0]], c.w[s[1]], c.w[s[2]]}, [3]int{c.v[s[0]], c.v[s[1]], c.v[s[2]]}
			if n := mix(t, w, v); n != c.want {
				t.Errorf("Mix(%v, %v) is %d, want %d", w, v, n, c.want)
			}
		}
	}
}

// Held against sums and quotients without a bound.
func TestMixOfMany(t *testing.T) {
	for _, w := range triples(0, 1, 2, 3, 7, 1<<32-1, 1<<33, 1<<41, heavy-1, heavy) {
		if w == [3]int{} {
			continue
		}
		for _, v := range triples(-high, 1-high, -65537, -3, -1, 0, 1, 5, high-1, high) {
			if n, want := mix(t, w, v), mixed(w, v); n != want {
				t.Fatalf("Mix(%v, %v) is %d, want %d", w, v, n, want)
			}
		}
	}
}

// In each place, and in several; beside the greatest ones that may be.
func TestMixOfWrongWeights(t *testing.T) {
	for _, n := range wrongWeights() {
		for _, w := range [][3]int{
			{n, 0, 0}, {0, n, 0}, {0, 0, n}, {n, 1, 1}, {1, n, 1}, {1, 1, n}, {n, heavy, heavy}, {heavy, n, heavy}, {heavy, heavy, n}, {n, n, 7}, {n, n, n},
			// Together what may be, or nothing.
			{n, -n, 0}, {-n, 0, n}, {0, n, 5 - n},
		} {
			for _, v := range [][3]int{{}, {1, 2, 3}, {high, high, -high}, {most, 0, 0}} {
				if got, e := Mix(w, v); got != 0 || e != api.ErrRange {
					t.Errorf("Mix(%v, %v) is %d, %d", w, v, got, e)
				}
			}
		}
	}
}

func TestMixOfNoWeight(t *testing.T) {
	for _, v := range append(triples(-high, -1, 0, 1, high), [3]int{most, least, 0}) {
		if n, e := Mix([3]int{}, v); n != 0 || e != api.ErrRange {
			t.Errorf("Mix(zeros, %v) is %d, %d", v, n, e)
		}
	}
}

// In each place, whatever its weight: a number that has none is asked too.
func TestMixOfWrongNumbers(t *testing.T) {
	for _, n := range wrongNumbers() {
		for _, v := range [][3]int{{n, 0, 0}, {0, n, 0}, {0, 0, n}, {n, -n, 0}, {high, n, high}, {-high, -high, n}, {n, n, 7}, {n, n, n}} {
			for _, w := range [][3]int{{1, 0, 0}, {0, 1, 0}, {0, 0, 1}, {1, 1, 1}, {0, 5, heavy}, {heavy, heavy, heavy}, {}} {
				if got, e := Mix(w, v); got != 0 || e != api.ErrRange {
					t.Errorf("Mix(%v, %v) is %d, %d", w, v, got, e)
				}
			}
		}
	}
}

// P13.3

// A number without a weight says nothing, however far it lies beyond the others.
func TestMixBetween(t *testing.T) {
	for _, w := range triples(0, 1, 3, 1<<20+1, 1<<41, heavy) {
		if w == [3]int{} {
			continue
		}
		for _, v := range triples(-high, -1<<20, -2, -1, 0, 1, 1<<20, high) {
			lo, hi := high, -high
			for i, n := range v {
				if w[i] > 0 {
					lo, hi = min(lo, n), max(hi, n)
				}
			}
			if n := mix(t, w, v); n < lo || n > hi {
				t.Fatalf("Mix(%v, %v) is %d, not from %d to %d", w, v, n, lo, hi)
			}
		}
	}
}

// Both together: the corners' own numbers, mixed by the weights of a point that the triangle has, are the point's.
func TestMixOfWeights(t *testing.T) {
	for _, q := range [][3]api.Point{three(-9, 4, 40, 12, 3, 60), three(-far, -far, far, -far, -far, far), three(far, far, -far, far, far, -far)} {
		met := 0
		for _, p := range append(grid(-24, 10, 8), of(-far, -far), of(far, far), of(far-1, far), of(-far+1, -far)) {
			w := weights(t, q, p)
			if min(w[0], w[1], w[2]) < 0 {
				continue
			}
			met++
			x, y := mix(t, w, [3]int{q[0].X, q[1].X, q[2].X}), mix(t, w, [3]int{q[0].Y, q[1].Y, q[2].Y})
			if of(x, y) != p {
				t.Errorf("mixed by %v, the corners %v are %d, %d, want %v", w, q, x, y, p)
			}
		}
		if met < 9 {
			t.Errorf("%v has only %d of the points", q, met)
		}
	}
}
