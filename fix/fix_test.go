package fix

import (
	"math"
	"math/big"
	"testing"

	"tempera/api"
)

// ends are numbers at which ints wrap round, and some between, with their neighbours.
func ends() []int {
	around := []int{
		0, 7, 1 << 16, 1 << 31, 1 << 32, 3037000499, 1 << 40, 1 << 61, 1 << 62,
		-7, -(1 << 16), -(1 << 31), -(1 << 32), -3037000499, -(1 << 40), -(1 << 61), -(1 << 62),
	}
	l := []int{math.MinInt, math.MinInt + 1, math.MinInt + 2, math.MaxInt - 2, math.MaxInt - 1, math.MaxInt}
	for _, n := range around {
		for d := -2; d <= 2; d++ {
			l = append(l, n+d)
		}
	}
	return l
}

func wide(n int) *big.Int { return big.NewInt(int64(n)) }

// held is the true number, or the bound that it is beyond.
func held(n *big.Int) int {
	if n.Cmp(wide(math.MaxInt)) > 0 {
		return math.MaxInt
	}
	if n.Cmp(wide(math.MinInt)) < 0 {
		return math.MinInt
	}
	return int(n.Int64())
}

// wideFloor divides by way of the remainder that is not below 0.
func wideFloor(a, b *big.Int) *big.Int {
	if b.Sign() < 0 {
		a, b = new(big.Int).Neg(a), new(big.Int).Neg(b)
	}
	return new(big.Int).Div(a, b)
}

func wideCeil(a, b *big.Int) *big.Int {
	q := wideFloor(new(big.Int).Neg(a), b)
	return q.Neg(q)
}

// P1.1

func TestSatHoldsInts(t *testing.T) {
	for _, c := range []struct{ n, lo, hi, want int }{
		{5, 0, 10, 5}, {-1, 0, 10, 0}, {11, 0, 10, 10},
		{0, 0, 10, 0}, {10, 0, 10, 10}, {3, 4, 4, 4}, {5, 4, 4, 4}, {4, 4, 4, 4},
		{math.MinInt, -1, 1, -1}, {math.MaxInt, -1, 1, 1},
		{math.MinInt, math.MinInt, math.MaxInt, math.MinInt},
		{math.MaxInt, math.MinInt, math.MaxInt, math.MaxInt},
		// lo and hi are crossed: lo is asked first
		{3, 8, 2, 8}, {1, 8, 2, 8}, {8, 8, 2, 2}, {9, 8, 2, 2},
	} {
		if got := Sat(c.n, c.lo, c.hi); got != c.want {
			t.Errorf("Sat(%d, %d, %d) = %d, want %d", c.n, c.lo, c.hi, got, c.want)
		}
	}
}

func TestSatHoldsOtherKinds(t *testing.T) {
	if got := Sat(uint8(200), 10, 100); got != 100 {
		t.Errorf("uint8: %d", got)
	}
	if got := Sat(uint64(math.MaxUint64), 1, 1<<63); got != 1<<63 {
		t.Errorf("uint64: %d", got)
	}
	if got := Sat(int8(-128), -5, 5); got != -5 {
		t.Errorf("int8: %d", got)
	}
	if got := Sat("b", "c", "e"); got != "c" {
		t.Errorf("text below: %q", got)
	}
	if got := Sat("ea", "c", "e"); got != "e" {
		t.Errorf("text above: %q", got)
	}
	if got := Sat("cz", "c", "e"); got != "cz" {
		t.Errorf("text between: %q", got)
	}
	if got := Sat(api.ErrStuck, api.OK, api.ErrNil); got != api.ErrNil {
		t.Errorf("a type of its own: %d", got)
	}
}

func TestSatHoldsFloats(t *testing.T) {
	nan, inf := math.NaN(), math.Inf(1)
	for _, c := range []struct{ n, lo, hi, want float64 }{
		{0.5, 0, 1, 0.5}, {-0.5, 0, 1, 0}, {1.5, 0, 1, 1},
		{inf, 0, 1, 1}, {-inf, 0, 1, 0},
		// what is held against NaN is neither below nor above it
		{nan, 0, 1, nan}, {2, nan, 1, 1}, {-2, nan, 1, -2}, {-2, 0, nan, 0}, {2, 0, nan, 2},
	} {
		got := Sat(c.n, c.lo, c.hi)
		if got != c.want && !(math.IsNaN(got) && math.IsNaN(c.want)) {
			t.Errorf("Sat(%v, %v, %v) = %v, want %v", c.n, c.lo, c.hi, got, c.want)
		}
	}
}

func TestAddSubMulAtBounds(t *testing.T) {
	const most, least = math.MaxInt, math.MinInt
	for _, c := range []struct {
		name string
		f    func(a, b int) int
		a, b int
		want int
	}{
		{"Add", Add, 2, 3, 5}, {"Add", Add, -2, -3, -5}, {"Add", Add, most, least, -1},
		{"Add", Add, most, 0, most}, {"Add", Add, most, 1, most}, {"Add", Add, most - 1, 1, most},
		{"Add", Add, most, most, most}, {"Add", Add, least, -1, least}, {"Add", Add, least + 1, -1, least},
		{"Add", Add, least, least, least}, {"Add", Add, 1, most, most}, {"Add", Add, -1, least, least},
		{"Sub", Sub, 2, 3, -1}, {"Sub", Sub, -2, -3, 1}, {"Sub", Sub, most, most, 0},
		{"Sub", Sub, least, least, 0}, {"Sub", Sub, 0, least, most}, {"Sub", Sub, -1, least, most},
		{"Sub", Sub, -2, least, most - 1}, {"Sub", Sub, 0, most, -most}, {"Sub", Sub, -1, most, least},
		{"Sub", Sub, -2, most, least}, {"Sub", Sub, least, 1, least}, {"Sub", Sub, most, -1, most},
		{"Sub", Sub, least, most, least}, {"Sub", Sub, most, least, most},
		{"Mul", Mul, 2, 3, 6}, {"Mul", Mul, -2, 3, -6}, {"Mul", Mul, 2, -3, -6}, {"Mul", Mul, -2, -3, 6},
		{"Mul", Mul, 0, least, 0}, {"Mul", Mul, least, 0, 0}, {"Mul", Mul, most, 0, 0},
		{"Mul", Mul, least, 1, least}, {"Mul", Mul, 1, least, least},
		{"Mul", Mul, least, -1, most}, {"Mul", Mul, -1, least, most}, {"Mul", Mul, most, -1, -most},
		{"Mul", Mul, most, 2, most}, {"Mul", Mul, most, -2, least}, {"Mul", Mul, least, 2, least},
		{"Mul", Mul, least, -2, most}, {"Mul", Mul, least, least, most}, {"Mul", Mul, most, most, most},
		{"Mul", Mul, least, most, least}, {"Mul", Mul, 1 << 32, 1 << 31, most},
		{"Mul", Mul, 1 << 32, -(1 << 31), least}, {"Mul", Mul, 1 << 32, 1 << 32, most},
		{"Mul", Mul, -(1 << 32), 1 << 32, least}, {"Mul", Mul, 3037000499, 3037000499, 9223372030926249001},
		{"Mul", Mul, 3037000500, 3037000500, most},
	} {
		if got := c.f(c.a, c.b); got != c.want {
			t.Errorf("%s(%d, %d) = %d, want %d", c.name, c.a, c.b, got, c.want)
		}
	}
}

func TestAddSubMulAgainstWide(t *testing.T) {
	for _, a := range ends() {
		for _, b := range ends() {
			if got, want := Add(a, b), held(new(big.Int).Add(wide(a), wide(b))); got != want {
				t.Errorf("Add(%d, %d) = %d, want %d", a, b, got, want)
			}
			if got, want := Sub(a, b), held(new(big.Int).Sub(wide(a), wide(b))); got != want {
				t.Errorf("Sub(%d, %d) = %d, want %d", a, b, got, want)
			}
			if got, want := Mul(a, b), held(new(big.Int).Mul(wide(a), wide(b))); got != want {
				t.Errorf("Mul(%d, %d) = %d, want %d", a, b, got, want)
			}
		}
	}
}

// P1.2

func TestFloorCeil(t *testing.T) {
	const most, least = math.MaxInt, math.MinInt
	for _, c := range []struct{ a, b, floor, ceil int }{
		{7, 2, 3, 4}, {-7, 2, -4, -3}, {7, -2, -4, -3}, {-7, -2, 3, 4},
		{6, 2, 3, 3}, {-6, 2, -3, -3}, {6, -2, -3, -3}, {-6, -2, 3, 3},
		{0, 5, 0, 0}, {0, -5, 0, 0}, {1, 5, 0, 1}, {-1, 5, -1, 0}, {1, -5, -1, 0}, {-1, -5, 0, 1},
		{least, -1, most, most}, {least, 1, least, least}, {most, -1, -most, -most}, {most, 1, most, most},
		{least + 1, -1, most, most}, {least, least, 1, 1}, {most, most, 1, 1},
		{most, least, -1, 0}, {least, most, -2, -1}, {1, least, -1, 0}, {-1, most, -1, 0},
		{least, 2, -(1 << 62), -(1 << 62)}, {most, 2, 1<<62 - 1, 1 << 62}, {least, -2, 1 << 62, 1 << 62},
	} {
		if n, e := Floor(c.a, c.b); n != c.floor || e != api.OK {
			t.Errorf("Floor(%d, %d) = %d, %d, want %d", c.a, c.b, n, e, c.floor)
		}
		if n, e := Ceil(c.a, c.b); n != c.ceil || e != api.OK {
			t.Errorf("Ceil(%d, %d) = %d, %d, want %d", c.a, c.b, n, e, c.ceil)
		}
	}
}

func TestFloorCeilByNought(t *testing.T) {
	for _, a := range ends() {
		if n, e := Floor(a, 0); n != 0 || e != api.ErrArg {
			t.Errorf("Floor(%d, 0) = %d, %d", a, n, e)
		}
		if n, e := Ceil(a, 0); n != 0 || e != api.ErrArg {
			t.Errorf("Ceil(%d, 0) = %d, %d", a, n, e)
		}
	}
}

func TestFloorCeilAgainstWide(t *testing.T) {
	for _, a := range ends() {
		for _, b := range ends() {
			if b == 0 {
				continue
			}
			if n, e := Floor(a, b); n != held(wideFloor(wide(a), wide(b))) || e != api.OK {
				t.Errorf("Floor(%d, %d) = %d, %d", a, b, n, e)
			}
			if n, e := Ceil(a, b); n != held(wideCeil(wide(a), wide(b))) || e != api.OK {
				t.Errorf("Ceil(%d, %d) = %d, %d", a, b, n, e)
			}
		}
	}
}

func TestRem(t *testing.T) {
	const most, least = math.MaxInt, math.MinInt
	for _, c := range []struct{ a, b, want int }{
		{7, 4, 3}, {-7, 4, 1}, {8, 4, 0}, {-8, 4, 0}, {0, 4, 0}, {3, 4, 3}, {-1, 4, 3},
		{least, 1, 0}, {most, 1, 0}, {most, most, 0}, {least, most, most - 1}, {-1, most, most - 1},
		{least, 3, 1}, {least, 1 << 62, 0}, {least + 1, 1 << 62, 1}, {most, 1 << 62, 1<<62 - 1},
	} {
		if n, e := Rem(c.a, c.b); n != c.want || e != api.OK {
			t.Errorf("Rem(%d, %d) = %d, %d, want %d", c.a, c.b, n, e, c.want)
		}
	}
}

func TestRemAgainstWide(t *testing.T) {
	for _, a := range ends() {
		for _, b := range ends() {
			n, e := Rem(a, b)
			if b < 1 {
				if n != 0 || e != api.ErrArg {
					t.Errorf("Rem(%d, %d) = %d, %d, want ErrArg", a, b, n, e)
				}
				continue
			}
			taken := new(big.Int).Mul(wide(b), wideFloor(wide(a), wide(b)))
			if want := new(big.Int).Sub(wide(a), taken); wide(n).Cmp(want) != 0 || e != api.OK {
				t.Errorf("Rem(%d, %d) = %d, %d, want %v", a, b, n, e, want)
			}
		}
	}
}

// P1.3

func TestRound(t *testing.T) {
	const most, least = math.MaxInt, math.MinInt
	for _, c := range []struct{ n, bits, want int }{
		{3, 1, 2}, {-3, 1, -1}, {1, 1, 1}, {-1, 1, 0}, {2, 1, 1}, {-2, 1, -1},
		{5, 2, 1}, {6, 2, 2}, {7, 2, 2}, {-5, 2, -1}, {-6, 2, -1}, {-7, 2, -2}, {0, 17, 0},
		{7, 0, 7}, {-7, 0, -7}, {most, 0, most}, {least, 0, least},
		{most, 1, 1 << 62}, {least, 1, -(1 << 62)},
		{most, 62, 2}, {least, 62, -2}, {1 << 61, 62, 1}, {1<<61 - 1, 62, 0},
		{-(1 << 61), 62, 0}, {-(1 << 61) - 1, 62, -1}, {1 << 62, 62, 1}, {0, 62, 0}, {-1, 62, 0},
	} {
		if n, e := Round(c.n, c.bits); n != c.want || e != api.OK {
			t.Errorf("Round(%d, %d) = %d, %d, want %d", c.n, c.bits, n, e, c.want)
		}
	}
}

func TestRoundOfWrongBits(t *testing.T) {
	for _, bits := range []int{-1, -2, -62, -63, -64, 63, 64, 65, 128, math.MinInt, math.MaxInt} {
		for _, n := range ends() {
			if got, e := Round(n, bits); got != 0 || e != api.ErrArg {
				t.Errorf("Round(%d, %d) = %d, %d, want ErrArg", n, bits, got, e)
			}
		}
	}
}

func TestRoundAgainstWide(t *testing.T) {
	for _, n := range ends() {
		for bits := 0; bits <= 62; bits++ {
			// twice n, and 2^bits, by twice 2^bits: n by 2^bits, and a half
			whole := new(big.Int).Lsh(wide(1), uint(bits))
			up := new(big.Int).Add(new(big.Int).Lsh(wide(n), 1), whole)
			want := wideFloor(up, new(big.Int).Lsh(whole, 1))
			if got, e := Round(n, bits); wide(got).Cmp(want) != 0 || e != api.OK {
				t.Errorf("Round(%d, %d) = %d, %d, want %v", n, bits, got, e, want)
			}
		}
	}
}

// P1.4

func TestLerp(t *testing.T) {
	const far = 1 << 40
	for _, c := range []struct{ a, b, t, want int }{
		{10, 20, 0, 10}, {10, 20, api.One, 20}, {10, 20, api.One / 2, 15}, {20, 10, api.One / 2, 15},
		{0, 1, api.One - 1, 0}, {0, 1, 1, 0}, {1, 0, 1, 0}, {1, 0, api.One - 1, 0}, {0, -1, 1, -1},
		{0, 3, api.One / 2, 1}, {0, -3, api.One / 2, -2}, {5, 5, 777, 5},
		{10, 20, -1, 10}, {10, 20, math.MinInt, 10}, {10, 20, api.One + 1, 20}, {10, 20, math.MaxInt, 20},
		{-far, far, 0, -far}, {-far, far, api.One, far}, {-far, far, api.One / 2, 0},
		{far, -far, 0, far}, {far, -far, api.One, -far}, {far, -far, 1, far - 1<<25},
		{-far, far, math.MaxInt, far}, {-far, far, math.MinInt, -far}, {far, far, 9, far}, {-far, -far, 9, -far},
	} {
		if n, e := Lerp(c.a, c.b, c.t); n != c.want || e != api.OK {
			t.Errorf("Lerp(%d, %d, %d) = %d, %d, want %d", c.a, c.b, c.t, n, e, c.want)
		}
	}
}

func TestLerpAgainstWide(t *testing.T) {
	const far = 1 << 40
	steps := []int{math.MinInt, -1, 0, 1, 2, 255, 32767, 32768, 32769, 65535, 65536, 65537, math.MaxInt}
	for _, a := range ends() {
		for _, b := range ends() {
			for _, step := range steps {
				n, e := Lerp(a, b, step)
				if a < -far || a > far || b < -far || b > far {
					if n != 0 || e != api.ErrRange {
						t.Errorf("Lerp(%d, %d, %d) = %d, %d, want ErrRange", a, b, step, n, e)
					}
					continue
				}
				part := new(big.Int).Mul(wide(b-a), wide(min(max(step, 0), 65536)))
				want := new(big.Int).Add(wide(a), wideFloor(part, wide(65536)))
				if wide(n).Cmp(want) != 0 || e != api.OK {
					t.Errorf("Lerp(%d, %d, %d) = %d, %d, want %v", a, b, step, n, e, want)
				}
			}
		}
	}
}
