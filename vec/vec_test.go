package vec

import (
	"math"
	"math/big"
	"testing"

	"tempera/api"
)

const most, least = math.MaxInt, math.MinInt

const cellEnd, partEnd, moveEnd = 1 << 24, 1 << 30, 1 << 16

// vector is four numbers as a vector.
func vector(l [4]int) api.Vec { return api.Vec{X: l[0], Y: l[1], Z: l[2], W: l[3]} }

// numbers is a vector's numbers.
func numbers(v api.Vec) [4]int { return [4]int{v.X, v.Y, v.Z, v.W} }

// row0 is a matrix with these numbers in its first row, and 0 else.
func row0(a, b, c, d int) api.Mat { return api.Mat{a, b, c, d} }

// full is a matrix whose numbers are all the same.
func full(n int) api.Mat {
	var m api.Mat
	for i := range m {
		m[i] = n
	}
	return m
}

// sumByOne is the sum of products of numbers of any size, by 2^16, cut downwards.
func sumByOne(a, b [4]int) int {
	sum := new(big.Int)
	for i := range a {
		sum.Add(sum, new(big.Int).Mul(big.NewInt(int64(a[i])), big.NewInt(int64(b[i]))))
	}
	// Div leaves a rest that is not below 0: by a number above 0 it cuts downwards.
	return int(sum.Div(sum, big.NewInt(1<<16)).Int64())
}

// outOf tells whether a number is not from -end to end.
func outOf(end int, l ...int) bool {
	for _, n := range l {
		if n > end || n < -end {
			return true
		}
	}
	return false
}

// applyWanted is what Apply has to answer.
func applyWanted(m api.Mat, v api.Vec) (api.Vec, api.Errno) {
	if outOf(cellEnd, m[:]...) || outOf(partEnd, v.X, v.Y, v.Z, v.W) {
		return api.Vec{}, api.ErrRange
	}
	var l [4]int
	for r := range 4 {
		l[r] = sumByOne([4]int(m[4*r:4*r+4]), numbers(v))
	}
	return vector(l), api.OK
}

// mulWanted is what Mul has to answer.
func mulWanted(a, b api.Mat) (api.Mat, api.Errno) {
	if outOf(cellEnd, a[:]...) || outOf(cellEnd, b[:]...) {
		return api.Mat{}, api.ErrRange
	}
	var m api.Mat
	for r := range 4 {
		for c := range 4 {
			m[4*r+c] = sumByOne([4]int(a[4*r:4*r+4]), [4]int{b[c], b[4+c], b[8+c], b[12+c]})
		}
	}
	if outOf(cellEnd, m[:]...) {
		return api.Mat{}, api.ErrRange
	}
	return m, api.OK
}

// rule tells numbers from -end to end, by a rule that is the same each time.
func rule(seed uint64) func(end int) int {
	return func(end int) int {
		seed = seed*6364136223846793005 + 1442695040888963407
		return int(seed>>20%uint64(2*end+1)) - end
	}
}

func matrixBy(next func(int) int, end int) api.Mat {
	var m api.Mat
	for i := range m {
		m[i] = next(end)
	}
	return m
}

func holdApply(t *testing.T, m api.Mat, v api.Vec) {
	t.Helper()
	want, wantE := applyWanted(m, v)
	if got, e := Apply(m, v); got != want || e != wantE {
		t.Errorf("Apply(%v, %v) is %v, %d, want %v, %d", m, v, got, e, want, wantE)
	}
}

func holdMul(t *testing.T, a, b api.Mat) {
	t.Helper()
	want, wantE := mulWanted(a, b)
	if got, e := Mul(a, b); got != want || e != wantE {
		t.Errorf("Mul(%v, %v) is %v, %d, want %v, %d", a, b, got, e, want, wantE)
	}
}

// moved is what Apply answers where it has to answer.
func moved(t *testing.T, m api.Mat, v api.Vec) api.Vec {
	t.Helper()
	got, e := Apply(m, v)
	if e != api.OK {
		t.Fatalf("Apply(%v, %v) has the error %d", m, v, e)
	}
	return got
}

func turn(t *testing.T, axis, quarters int) api.Mat {
	t.Helper()
	m, e := Turn(axis, quarters)
	if e != api.OK {
		t.Fatalf("Turn(%d, %d) has the error %d", axis, quarters, e)
	}
	return m
}

// P5.1

func TestPlace(t *testing.T) {
	for _, c := range []struct{ x, y, z int }{
		{0, 0, 0}, {1, 2, 3}, {-3, -2, -1}, {1 << 20, -1 << 20, 1<<20 + 1}, {partEnd, -partEnd, partEnd + 1}, {least, most, least}, {most, least, most},
	} {
		v := api.Vertex{X: c.x, Y: c.y, Z: c.z, C: api.Color{R: 11, G: 22, B: 33, A: 44}, U: 55, V: 66}
		if got, want := Place(v), (api.Vec{X: c.x, Y: c.y, Z: c.z, W: 256}); got != want {
			t.Errorf("Place(%v) is %v, want %v", v, got, want)
		}
	}
}

func TestApplyTold(t *testing.T) {
	for _, c := range []struct {
		name    string
		m       api.Mat
		v, want api.Vec
	}{
		{"nothing", api.Mat{}, api.Vec{X: 1, Y: 2, Z: 3, W: 4}, api.Vec{}},
		{"identity", Identity(), api.Vec{X: 1, Y: -2, Z: 3, W: -4}, api.Vec{X: 1, Y: -2, Z: 3, W: -4}},
		{"rows, not columns", api.Mat{1: api.One, 7: api.One, 8: api.One, 14: api.One}, api.Vec{X: 1, Y: 2, Z: 3, W: 4}, api.Vec{X: 2, Y: 4, Z: 1, W: 3}},
		{"all of a row", row0(65536, 131072, 196608, 262144), api.Vec{X: 1, Y: 10, Z: 100, W: 1000}, api.Vec{X: 4321}},
		{"the last row", api.Mat{12: 65536, 13: 131072, 14: -65536, 15: 32768}, api.Vec{X: 1, Y: 10, Z: 100, W: 1000}, api.Vec{W: 421}},
		{"halves above 0", row0(32768, 0, 0, 0), api.Vec{X: 3}, api.Vec{X: 1}},
		{"halves below 0", row0(32768, 0, 0, 0), api.Vec{X: -3}, api.Vec{X: -2}},
		{"a little above 0", row0(1, 0, 0, 0), api.Vec{X: 1}, api.Vec{}},
		{"a little below 0", row0(-1, 0, 0, 0), api.Vec{X: 1}, api.Vec{X: -1}},
		{"below a number of One", row0(1, 0, 0, 0), api.Vec{X: 65535}, api.Vec{}},
		{"a number of One", row0(1, 0, 0, 0), api.Vec{X: 65536}, api.Vec{X: 1}},
		{"a number of One below 0", row0(1, 0, 0, 0), api.Vec{X: -65536}, api.Vec{X: -1}},
		{"beyond a number of One below 0", row0(1, 0, 0, 0), api.Vec{X: -65537}, api.Vec{X: -2}},
		{"the sum is cut, not its parts", row0(32768, 32768, 32768, 32768), api.Vec{X: 1, Y: 1, Z: 1, W: 1}, api.Vec{X: 2}},
		{"the sum is cut below 0, not its parts", row0(1, 1, 1, 1), api.Vec{X: -1, Y: -1, Z: -1, W: -1}, api.Vec{X: -1}},
		{"parts against each other", row0(1, -1, 0, 0), api.Vec{X: 5, Y: 5}, api.Vec{}},
		{"the greatest", full(cellEnd), vector([4]int{partEnd, partEnd, partEnd, partEnd}), vector([4]int{1 << 40, 1 << 40, 1 << 40, 1 << 40})},
		{"the least", full(-cellEnd), vector([4]int{partEnd, partEnd, partEnd, partEnd}), vector([4]int{-1 << 40, -1 << 40, -1 << 40, -1 << 40})},
		{"both below 0", full(-cellEnd), vector([4]int{-partEnd, -partEnd, -partEnd, -partEnd}), vector([4]int{1 << 40, 1 << 40, 1 << 40, 1 << 40})},
	} {
		if got, e := Apply(c.m, c.v); got != c.want || e != api.OK {
			t.Errorf("%s: Apply is %v, %d, want %v", c.name, got, e, c.want)
		}
	}
}

func TestApplyAgainstNumbersOfAnySize(t *testing.T) {
	next := rule(1)
	for _, end := range []int{1, 3, 255, 70000, cellEnd} {
		for range 400 {
			holdApply(t, matrixBy(next, end), vector([4]int{next(end), next(end), next(end), next(end)}))
			holdApply(t, matrixBy(next, end), vector([4]int{next(partEnd), next(partEnd), next(partEnd), next(partEnd)}))
		}
	}
}

// Each number of the matrix, and of the vector, is asked: at its ends, and beyond them.
func TestApplyAtItsEnds(t *testing.T) {
	for at := range 16 {
		for _, n := range []int{-cellEnd, -cellEnd + 1, cellEnd - 1, cellEnd} {
			m := Identity()
			m[at] = n
			v := api.Vec{X: partEnd, Y: -7, Z: 12345, W: -partEnd}
			if _, e := Apply(m, v); e != api.OK {
				t.Errorf("Apply with %d at %d has the error %d", n, at, e)
			}
			holdApply(t, m, v)
		}
	}
	for at := range 4 {
		for _, n := range []int{-partEnd, -partEnd + 1, partEnd - 1, partEnd} {
			l := [4]int{1, 2, 3, 4}
			l[at] = n
			if _, e := Apply(full(cellEnd), vector(l)); e != api.OK {
				t.Errorf("Apply of a vector with %d at %d has the error %d", n, at, e)
			}
			holdApply(t, full(cellEnd), vector(l))
		}
	}
}

func TestApplyBeyondItsEnds(t *testing.T) {
	for at := range 16 {
		for _, n := range []int{-cellEnd - 1, cellEnd + 1, -partEnd, partEnd, -1 << 32, 1 << 32, 1 << 62, least, least + 1, most} {
			for _, m := range []api.Mat{{}, Identity(), full(5)} {
				m[at] = n
				for _, v := range []api.Vec{{}, {X: 1, Y: 2, Z: 3, W: 256}, {X: partEnd + 1}} {
					if got, e := Apply(m, v); got != (api.Vec{}) || e != api.ErrRange {
						t.Errorf("Apply with %d at %d is %v, %d, want ErrRange", n, at, got, e)
					}
				}
			}
		}
	}
	for at := range 4 {
		for _, n := range []int{-partEnd - 1, partEnd + 1, -1 << 32, 1 << 32, 1 << 62, least, least + 1, most} {
			l := [4]int{1, 2, 3, 4}
			l[at] = n
			for _, m := range []api.Mat{{}, Identity(), full(cellEnd)} {
				if got, e := Apply(m, vector(l)); got != (api.Vec{}) || e != api.ErrRange {
					t.Errorf("Apply of a vector with %d at %d is %v, %d, want ErrRange", n, at, got, e)
				}
			}
		}
	}
}

// P5.2

func TestMulTold(t *testing.T) {
	counted := api.Mat{1, 2, 3, 4, 5, 6, 7, 8, 9, 10, 11, 12, 13, 14, 15, 16}
	swap := api.Mat{1: api.One, 4: api.One, 10: api.One, 15: api.One}
	for _, c := range []struct {
		name       string
		a, b, want api.Mat
	}{
		{"nothing", api.Mat{}, counted, api.Mat{}},
		{"identity ahead", Identity(), counted, counted},
		{"identity behind", counted, Identity(), counted},
		{"rows swapped", swap, counted, api.Mat{5, 6, 7, 8, 1, 2, 3, 4, 9, 10, 11, 12, 13, 14, 15, 16}},
		{"columns swapped", counted, swap, api.Mat{2, 1, 3, 4, 6, 5, 7, 8, 10, 9, 11, 12, 14, 13, 15, 16}},
		{"a row and a column", row0(65536, 131072, 196608, 262144), api.Mat{2: 1, 6: 10, 10: 100, 14: 1000}, api.Mat{2: 4321}},
		{"a half above 0", row0(32768, 0, 0, 0), row0(3, 1, 65536, 0), row0(1, 0, 32768, 0)},
		{"a half below 0", row0(32768, 0, 0, 0), row0(-3, -1, -65536, 0), row0(-2, -1, -32768, 0)},
		{"a little above 0", row0(1, 0, 0, 0), row0(1, 65535, 65536, 65537), row0(0, 0, 1, 1)},
		{"a little below 0", row0(-1, 0, 0, 0), row0(1, 65535, 65536, 65537), row0(-1, -1, -1, -2)},
		{"the sum is cut, not its parts", row0(32768, 32768, 32768, 32768), full(1), row0(2, 2, 2, 2)},
		{"the sum is cut below 0, not its parts", row0(-1, -1, -1, -1), full(1), row0(-1, -1, -1, -1)},
	} {
		if got, e := Mul(c.a, c.b); got != c.want || e != api.OK {
			t.Errorf("%s: Mul is %v, %d, want %v", c.name, got, e, c.want)
		}
	}
}

func TestMulAgainstNumbersOfAnySize(t *testing.T) {
	next := rule(2)
	for _, end := range []int{1, 3, 255, 70000, 1 << 20, 1 << 22, cellEnd} {
		for range 400 {
			holdMul(t, matrixBy(next, end), matrixBy(next, 70000))
			holdMul(t, matrixBy(next, end), matrixBy(next, end))
		}
	}
}

// A matrix goes behind another one as Apply goes behind Apply, where nothing is cut.
func TestMulGoesFromTheRight(t *testing.T) {
	a := api.Mat{0: 2 * api.One, 3: 5 * api.One, 6: -api.One, 9: 3 * api.One, 12: api.One, 15: api.One}
	b := api.Mat{1: api.One, 4: -4 * api.One, 10: api.One, 11: 7 * api.One, 15: api.One}
	v := api.Vec{X: 3, Y: 5, Z: -7, W: 256}
	ab, e := Mul(a, b)
	if e != api.OK {
		t.Fatal(e)
	}
	if got, want := moved(t, ab, v), moved(t, a, moved(t, b, v)); got != want {
		t.Errorf("Apply of the product is %v, want %v", got, want)
	}
}

// Each number of both factors is asked: at its ends, and beyond them.
func TestMulAtItsEnds(t *testing.T) {
	for at := range 16 {
		for _, n := range []int{-cellEnd, cellEnd} {
			m := Identity()
			m[at] = n
			for _, pair := range [][2]api.Mat{{m, Identity()}, {Identity(), m}} {
				if got, e := Mul(pair[0], pair[1]); got != m || e != api.OK {
					t.Errorf("Mul with %d at %d is %v, %d", n, at, got, e)
				}
			}
		}
	}
}

func TestMulBeyondItsEnds(t *testing.T) {
	for at := range 16 {
		for _, n := range []int{-cellEnd - 1, cellEnd + 1, -1 << 32, 1 << 32, 1 << 62, least, least + 1, most} {
			m := Identity()
			m[at] = n
			// Nothing, times m, would be a matrix that may be.
			for _, pair := range [][2]api.Mat{{m, Identity()}, {Identity(), m}, {m, {}}, {{}, m}, {m, m}} {
				if got, e := Mul(pair[0], pair[1]); got != (api.Mat{}) || e != api.ErrRange {
					t.Errorf("Mul with %d at %d is %v, %d, want ErrRange", n, at, got, e)
				}
			}
		}
	}
}

func TestProductsThatMayNotBe(t *testing.T) {
	for _, c := range []struct {
		name string
		a, b api.Mat
	}{
		{"the greatest", full(cellEnd), full(cellEnd)},
		{"the least", full(-cellEnd), full(cellEnd)},
		{"one number", row0(cellEnd, 0, 0, 0), row0(cellEnd, 0, 0, 0)},
		{"one beyond", row0(cellEnd, 1, 0, 0), api.Mat{0: api.One, 4: api.One}},
		{"one beyond, below 0", row0(-cellEnd, -1, 0, 0), api.Mat{0: api.One, 4: api.One}},
		{"cut downwards to one beyond", row0(-cellEnd, -1, 0, 0), api.Mat{0: api.One, 4: 1}},
	} {
		if got, e := Mul(c.a, c.b); got != (api.Mat{}) || e != api.ErrRange {
			t.Errorf("%s: Mul is %v, %d, want ErrRange", c.name, got, e)
		}
	}
	for r := range 4 {
		for c := range 4 {
			var a, b api.Mat
			a[4*r+1], b[4+c] = 1<<23+1, 2*api.One
			if got, e := Mul(a, b); got != (api.Mat{}) || e != api.ErrRange {
				t.Errorf("Mul that is too great at %d, %d is %v, %d, want ErrRange", r, c, got, e)
			}
		}
	}
}

func TestProductsThatJustMayBe(t *testing.T) {
	for _, c := range []struct {
		name string
		a, b api.Mat
		want int
	}{
		{"the greatest", row0(cellEnd, 0, 0, 0), row0(api.One, 0, 0, 0), cellEnd},
		{"the least", row0(cellEnd, 0, 0, 0), row0(-api.One, 0, 0, 0), -cellEnd},
		{"cut downwards to the greatest", row0(cellEnd, 1, 0, 0), api.Mat{0: api.One, 4: api.One - 1}, cellEnd},
		{"parts beyond, against each other", row0(cellEnd, cellEnd, 0, 0), api.Mat{0: cellEnd, 4: -cellEnd}, 0},
	} {
		if got, e := Mul(c.a, c.b); got != row0(c.want, 0, 0, 0) || e != api.OK {
			t.Errorf("%s: Mul is %v, %d, want %d", c.name, got, e, c.want)
		}
	}
}

// P5.3

func TestIdentity(t *testing.T) {
	want := api.Mat{65536, 0, 0, 0, 0, 65536, 0, 0, 0, 0, 65536, 0, 0, 0, 0, 65536}
	got := Identity()
	if got != want {
		t.Errorf("Identity is %v", got)
	}
	got[3] = 9
	if again := Identity(); again != want {
		t.Errorf("Identity became %v", again)
	}
}

// threes are all threes of these numbers.
func threes(l ...int) [][3]int {
	var all [][3]int
	for _, x := range l {
		for _, y := range l {
			for _, z := range l {
				all = append(all, [3]int{x, y, z})
			}
		}
	}
	return all
}

func TestScale(t *testing.T) {
	for _, l := range threes(0, 1, -1, 65536, -65537, cellEnd-1, cellEnd, -cellEnd, cellEnd+1, -cellEnd-1, least, most) {
		want, wantE := api.Mat{l[0], 0, 0, 0, 0, l[1], 0, 0, 0, 0, l[2], 0, 0, 0, 0, 65536}, api.OK
		if outOf(cellEnd, l[:]...) {
			want, wantE = api.Mat{}, api.ErrRange
		}
		if got, e := Scale(l[0], l[1], l[2]); got != want || e != wantE {
			t.Errorf("Scale of %v is %v, %d, want %v, %d", l, got, e, want, wantE)
		}
	}
}

func TestScaleScales(t *testing.T) {
	m, e := Scale(2*api.One, -api.One, api.One/2)
	if got, want := moved(t, m, api.Vec{X: 3, Y: 5, Z: -7, W: 256}), (api.Vec{X: 6, Y: -5, Z: -4, W: 256}); got != want || e != api.OK {
		t.Errorf("scaled: %v, %d, want %v", got, e, want)
	}
}

func TestMove(t *testing.T) {
	for _, l := range threes(0, 1, -1, 3, moveEnd-1, moveEnd, -moveEnd, -moveEnd+1, moveEnd+1, -moveEnd-1, cellEnd, 1<<56, 1<<62, least, most) {
		want, wantE := api.Mat{65536, 0, 0, 256 * l[0], 0, 65536, 0, 256 * l[1], 0, 0, 65536, 256 * l[2], 0, 0, 0, 65536}, api.OK
		if outOf(moveEnd, l[:]...) {
			want, wantE = api.Mat{}, api.ErrRange
		}
		if got, e := Move(l[0], l[1], l[2]); got != want || e != wantE {
			t.Errorf("Move of %v is %v, %d, want %v, %d", l, got, e, want, wantE)
		}
	}
}

// P5.4

// one is One, as it stands in the matrices below.
const one = 65536

// quarterTurns has, of each axis, the turns by 0 to 3 quarters.
func quarterTurns() [3][4]api.Mat {
	none := api.Mat{one, 0, 0, 0, 0, one, 0, 0, 0, 0, one, 0, 0, 0, 0, one}
	return [3][4]api.Mat{
		{
			none,
			{one, 0, 0, 0, 0, 0, -one, 0, 0, one, 0, 0, 0, 0, 0, one},
			{one, 0, 0, 0, 0, -one, 0, 0, 0, 0, -one, 0, 0, 0, 0, one},
			{one, 0, 0, 0, 0, 0, one, 0, 0, -one, 0, 0, 0, 0, 0, one},
		},
		{
			none,
			{0, 0, one, 0, 0, one, 0, 0, -one, 0, 0, 0, 0, 0, 0, one},
			{-one, 0, 0, 0, 0, one, 0, 0, 0, 0, -one, 0, 0, 0, 0, one},
			{0, 0, -one, 0, 0, one, 0, 0, one, 0, 0, 0, 0, 0, 0, one},
		},
		{
			none,
			{0, -one, 0, 0, one, 0, 0, 0, 0, 0, one, 0, 0, 0, 0, one},
			{-one, 0, 0, 0, 0, -one, 0, 0, 0, 0, one, 0, 0, 0, 0, one},
			{0, one, 0, 0, -one, 0, 0, 0, 0, 0, one, 0, 0, 0, 0, one},
		},
	}
}

func TestTurnTold(t *testing.T) {
	for axis, turns := range quarterTurns() {
		for quarters, same := range map[int]int{
			0: 0, 1: 1, 2: 2, 3: 3, 4: 0, 5: 1, 6: 2, 7: 3, 8: 0, 1 << 32: 0, 1<<62 + 1: 1,
			-1: 3, -2: 2, -3: 1, -4: 0, -5: 3, -6: 2, -7: 1, -8: 0, -1<<32 - 1: 3,
			least: 0, least + 1: 1, least + 2: 2, least + 3: 3, most: 3, most - 1: 2, most - 2: 1, most - 3: 0,
		} {
			if got, e := Turn(axis, quarters); got != turns[same] || e != api.OK {
				t.Errorf("Turn(%d, %d) is %v, %d, want %v", axis, quarters, got, e, turns[same])
			}
		}
	}
}

// By one quarter about an axis, what lies along one axis comes to lie along another one.
func TestWhatAxesBecome(t *testing.T) {
	x, y, z := api.Vec{X: 9, W: 256}, api.Vec{Y: 9, W: 256}, api.Vec{Z: 9, W: 256}
	for _, c := range []struct {
		axis       int
		from, want api.Vec
	}{
		{0, x, x}, {0, y, z}, {0, z, api.Vec{Y: -9, W: 256}},
		{1, y, y}, {1, z, x}, {1, x, api.Vec{Z: -9, W: 256}},
		{2, z, z}, {2, x, y}, {2, y, api.Vec{X: -9, W: 256}},
	} {
		if got := moved(t, turn(t, c.axis, 1), c.from); got != c.want {
			t.Errorf("about axis %d, %v becomes %v, want %v", c.axis, c.from, got, c.want)
		}
	}
}

func TestTurnAboutWhatIsNoAxis(t *testing.T) {
	for _, axis := range []int{-1, 3, -2, 4, -3, 6, -4, 1 << 32, 1<<32 + 1, -1 << 32, least, least + 1, most - 1, most} {
		for _, quarters := range []int{0, 1, 2, 3, 4, -1, -4, least, most} {
			if got, e := Turn(axis, quarters); got != (api.Mat{}) || e != api.ErrArg {
				t.Errorf("Turn(%d, %d) is %v, %d, want ErrArg", axis, quarters, got, e)
			}
		}
	}
}

// P5.5

func TestTheExample(t *testing.T) {
	m, e := Move(1, 2, 3)
	if got, want := moved(t, m, api.Vec{W: 256}), (api.Vec{X: 1, Y: 2, Z: 3, W: 256}); got != want || e != api.OK {
		t.Errorf("moved: %v, %d, want %v", got, e, want)
	}
}

func TestMoveGoesJustThatFar(t *testing.T) {
	for _, l := range threes(0, 1, -1, 255, -257, 12345, moveEnd-1, moveEnd, -moveEnd, -moveEnd+1) {
		m, e := Move(l[0], l[1], l[2])
		if e != api.OK {
			t.Fatalf("Move of %v has the error %d", l, e)
		}
		for _, v := range []api.Vertex{{}, {X: 1, Y: -1, Z: 7}, {X: -12345, Y: 1 << 20, Z: -1 << 20}, {X: partEnd, Y: -partEnd, Z: partEnd - 1}} {
			want := api.Vec{X: v.X + l[0], Y: v.Y + l[1], Z: v.Z + l[2], W: 256}
			if got := moved(t, m, Place(v)); got != want {
				t.Errorf("%v, moved by %v, is %v, want %v", v, l, got, want)
			}
		}
	}
}

func TestMovesGoOneBehindTheOther(t *testing.T) {
	a, _ := Move(100, -moveEnd/2, -5)
	b, _ := Move(-30, -moveEnd/2, 65)
	want, _ := Move(70, -moveEnd, 60)
	if got, e := Mul(a, b); got != want || e != api.OK {
		t.Errorf("Mul of two moves is %v, %d, want %v", got, e, want)
	}
}

func TestFourQuartersAreNone(t *testing.T) {
	for axis := range 3 {
		for _, quarters := range []int{4, -4, 8, 400, -400, 1 << 40, least} {
			if got := turn(t, axis, quarters); got != Identity() {
				t.Errorf("Turn(%d, %d) is %v", axis, quarters, got)
			}
		}
		for _, step := range []int{1, 2, 3, -1, -2, -3} {
			product, e := Identity(), api.OK
			v := api.Vec{X: 3, Y: -5, Z: 7, W: 256}
			for range 4 {
				product, e = Mul(product, turn(t, axis, step))
				v = moved(t, turn(t, axis, step), v)
			}
			if product != Identity() || e != api.OK || v != (api.Vec{X: 3, Y: -5, Z: 7, W: 256}) {
				t.Errorf("four times Turn(%d, %d) is %v, %d, and leads to %v", axis, step, product, e, v)
			}
		}
	}
}

func TestTurnsGoOneBehindTheOther(t *testing.T) {
	for axis := range 3 {
		for a := -5; a <= 5; a++ {
			for b := -5; b <= 5; b++ {
				if got, e := Mul(turn(t, axis, a), turn(t, axis, b)); got != turn(t, axis, a+b) || e != api.OK {
					t.Errorf("Turn(%d, %d) by Turn(%d, %d) is %v, %d", axis, a, axis, b, got, e)
				}
			}
		}
	}
}
