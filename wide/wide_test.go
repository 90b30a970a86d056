package wide

import (
	"math"
	"math/big"
	"testing"

	"tempera/api"
)

const most, least = math.MaxInt, math.MinInt

// ints are numbers at which ints, and halves of them, come round, and some between, with their neighbours.
func ints() []int {
	l := []int{least, least + 1, least + 2, most - 2, most - 1, most}
	for _, n := range []int{0, 7, 1 << 16, 1 << 31, 1 << 32, 3037000499, 1 << 40, 1 << 61, 1 << 62, 0x123456789abcdef} {
		for d := -2; d <= 2; d++ {
			l = append(l, n+d, -n+d)
		}
	}
	return l
}

// wides are all numbers whose upper and lower words are at an edge.
func wides() []Int {
	his := []int{least, least + 1, -(1 << 62) - 1, -(1 << 62), -1 << 32, -3, -2, -1, 0, 1, 2, 3, 1 << 32, 1<<62 - 1, 1 << 62, most - 1, most}
	los := []uint64{0, 1, 2, 3, 1 << 32, 1<<63 - 2, 1<<63 - 1, 1 << 63, 1<<63 + 1, 1<<63 + 2, math.MaxUint64 - 1, math.MaxUint64}
	var l []Int
	for _, hi := range his {
		for _, lo := range los {
			l = append(l, Int{hi, lo})
		}
	}
	return l
}

func bigOf(n int) *big.Int { return big.NewInt(int64(n)) }

// value is Hi times 2^64, and Lo.
func value(n Int) *big.Int {
	v := new(big.Int).Lsh(bigOf(n.Hi), 64)
	return v.Add(v, new(big.Int).SetUint64(n.Lo))
}

// round is the number from -2^127 to 2^127 - 1 that is the same modulo 2^128.
func round(n *big.Int) *big.Int {
	whole, half := new(big.Int).Lsh(bigOf(1), 128), new(big.Int).Lsh(bigOf(1), 127)
	r := new(big.Int).Add(n, half)
	return r.Mod(r, whole).Sub(r, half)
}

// quotient divides downwards, by way of a remainder that is not below 0.
func quotient(a, b *big.Int) *big.Int {
	if b.Sign() < 0 {
		a, b = new(big.Int).Neg(a), new(big.Int).Neg(b)
	}
	return new(big.Int).Div(a, b)
}

// wanted is what a division has to answer.
func wanted(a *big.Int, b int) (int, api.Errno) {
	if b == 0 {
		return 0, api.ErrArg
	}
	q := quotient(a, bigOf(b))
	if !q.IsInt64() {
		return 0, api.ErrRange
	}
	return int(q.Int64()), api.OK
}

// P2.1

func TestOf(t *testing.T) {
	for _, c := range []struct {
		n    int
		want Int
	}{
		{0, Int{}}, {1, Int{0, 1}}, {-1, Int{-1, math.MaxUint64}}, {7, Int{0, 7}}, {-7, Int{-1, math.MaxUint64 - 6}},
		{most, Int{0, 1<<63 - 1}}, {least, Int{-1, 1 << 63}},
	} {
		if got := Of(c.n); got != c.want {
			t.Errorf("Of(%d) = %v, want %v", c.n, got, c.want)
		}
	}
	for _, n := range ints() {
		if value(Of(n)).Cmp(bigOf(n)) != 0 {
			t.Errorf("Of(%d) = %v", n, Of(n))
		}
	}
}

func TestMul(t *testing.T) {
	for _, c := range []struct {
		a, b int
		want Int
	}{
		{1 << 40, 1 << 40, Int{1 << 16, 0}}, {2, 3, Int{0, 6}}, {-2, 3, Int{-1, math.MaxUint64 - 5}},
		{-2, -3, Int{0, 6}}, {0, least, Int{}}, {least, 0, Int{}}, {0, -1, Int{}}, {-1, 0, Int{}},
		{most, most, Int{1<<62 - 1, 1}}, {least, least, Int{1 << 62, 0}}, {least, most, Int{-(1 << 62), 1 << 63}},
		{least, -1, Int{0, 1 << 63}}, {-1, least, Int{0, 1 << 63}}, {least, 1, Int{-1, 1 << 63}},
		{-(1 << 32), 1 << 32, Int{-1, 0}}, {1 << 32, 1 << 32, Int{1, 0}},
	} {
		if got := Mul(c.a, c.b); got != c.want {
			t.Errorf("Mul(%d, %d) = %v, want %v", c.a, c.b, got, c.want)
		}
	}
	for _, a := range ints() {
		for _, b := range ints() {
			if got, want := Mul(a, b), new(big.Int).Mul(bigOf(a), bigOf(b)); value(got).Cmp(want) != 0 {
				t.Errorf("Mul(%d, %d) = %v, want %v", a, b, got, want)
			}
		}
	}
}

func TestAdd(t *testing.T) {
	for _, c := range []struct{ a, b, want Int }{
		{Int{0, 2}, Int{0, 3}, Int{0, 5}}, {Of(5), Of(-5), Int{}}, {Of(-5), Of(4), Of(-1)},
		{Int{0, math.MaxUint64}, Of(1), Int{1, 0}}, {Int{1, 0}, Of(-1), Int{0, math.MaxUint64}},
		// what leaves the range comes round
		{Int{most, math.MaxUint64}, Of(1), Int{least, 0}}, {Int{least, 0}, Of(-1), Int{most, math.MaxUint64}},
		{Int{least, 0}, Int{least, 0}, Int{}}, {Int{most, math.MaxUint64}, Int{most, math.MaxUint64}, Of(-2)},
		{Int{most, math.MaxUint64}, Int{least, 0}, Of(-1)},
	} {
		if got := c.a.Add(c.b); got != c.want {
			t.Errorf("%v.Add(%v) = %v, want %v", c.a, c.b, got, c.want)
		}
	}
	for _, a := range wides() {
		for _, b := range wides() {
			if got, want := a.Add(b), round(new(big.Int).Add(value(a), value(b))); value(got).Cmp(want) != 0 {
				t.Errorf("%v.Add(%v) = %v, want %v", a, b, got, want)
			}
		}
	}
}

func TestNeg(t *testing.T) {
	for _, c := range []struct{ n, want Int }{
		{Int{}, Int{}}, {Of(1), Of(-1)}, {Of(-1), Of(1)}, {Int{1, 0}, Int{-1, 0}}, {Int{-1, 0}, Int{1, 0}},
		{Int{0, math.MaxUint64}, Int{-1, 1}}, {Of(least), Int{0, 1 << 63}},
		{Int{most, math.MaxUint64}, Int{least, 1}}, {Int{least, 1}, Int{most, math.MaxUint64}},
		// the least one comes round to itself
		{Int{least, 0}, Int{least, 0}},
	} {
		if got := c.n.Neg(); got != c.want {
			t.Errorf("%v.Neg() = %v, want %v", c.n, got, c.want)
		}
	}
	for _, n := range wides() {
		if got, want := n.Neg(), round(new(big.Int).Neg(value(n))); value(got).Cmp(want) != 0 {
			t.Errorf("%v.Neg() = %v, want %v", n, got, want)
		}
	}
}

func TestSum(t *testing.T) {
	for _, c := range []struct {
		l    []Int
		want Int
	}{
		{nil, Int{}}, {[]Int{}, Int{}}, {[]Int{{least, 0}}, Int{least, 0}}, {[]Int{Of(1), Of(-3)}, Of(-2)},
		{[]Int{Of(1), Of(2), Of(3), Of(4)}, Of(10)}, {[]Int{{0, math.MaxUint64}, Of(1), Of(1)}, Int{1, 1}},
		// it comes round on the way, and back again
		{[]Int{{most, math.MaxUint64}, Of(1)}, Int{least, 0}}, {[]Int{{most, math.MaxUint64}, Of(1), Of(-1)}, Int{most, math.MaxUint64}},
		{[]Int{{least, 0}, {least, 0}, Of(9)}, Of(9)},
	} {
		if got := Sum(c.l...); got != c.want {
			t.Errorf("Sum(%v) = %v, want %v", c.l, got, c.want)
		}
	}
	if got := Sum(); got != (Int{}) {
		t.Errorf("Sum of none = %v", got)
	}
	all := new(big.Int)
	for i, n := range wides() {
		all.Add(all, value(n))
		if got, want := Sum(wides()[:i+1]...), round(all); value(got).Cmp(want) != 0 {
			t.Errorf("Sum of %d = %v, want %v", i+1, got, want)
		}
	}
}

func TestSumLeavesItsList(t *testing.T) {
	l := []Int{Of(1), Of(2), Of(3)}
	Sum(l[:2]...)
	if l[0] != Of(1) || l[1] != Of(2) || l[2] != Of(3) {
		t.Errorf("the list is now %v", l)
	}
}

func TestSameNumbersAreEqual(t *testing.T) {
	for _, a := range ints() {
		if Mul(a, 1) != Of(a) || Mul(1, a) != Of(a) || Mul(a, -1) != Of(a).Neg() || Of(a).Neg().Neg() != Of(a) {
			t.Errorf("%d is several numbers", a)
		}
		if Of(a).Add(Of(a).Neg()) != (Int{}) || Mul(a, 0) != (Int{}) || Of(a).Add(Of(a)) != Mul(a, 2) {
			t.Errorf("%d: sums that are the same are not equal", a)
		}
	}
}

// P2.2

func TestCmp(t *testing.T) {
	for _, c := range []struct {
		a, b Int
		want int
	}{
		{Of(1), Of(2), -1}, {Of(2), Of(1), 1}, {Of(2), Of(2), 0}, {Of(-1), Of(0), -1}, {Of(0), Of(-1), 1},
		{Of(-2), Of(-1), -1}, {Of(least), Of(most), -1}, {Int{}, Int{}, 0},
		// the lower words have no sign
		{Int{0, 1 << 63}, Int{0, 1<<63 - 1}, 1}, {Int{-1, 1 << 63}, Int{-1, 1<<63 - 1}, 1},
		// the upper word goes ahead of the lower one
		{Int{1, 0}, Int{0, math.MaxUint64}, 1}, {Int{-1, math.MaxUint64}, Int{0, 0}, -1},
		{Int{least, 0}, Int{most, math.MaxUint64}, -1}, {Int{most, math.MaxUint64}, Int{least, 0}, 1},
		{Int{least, 0}, Int{least, 0}, 0}, {Int{least, 0}, Int{least, 1}, -1},
		{Int{most, math.MaxUint64}, Int{most, math.MaxUint64}, 0}, {Int{most, math.MaxUint64}, Int{most, math.MaxUint64 - 1}, 1},
	} {
		if got := c.a.Cmp(c.b); got != c.want {
			t.Errorf("%v.Cmp(%v) = %d, want %d", c.a, c.b, got, c.want)
		}
	}
	for _, a := range wides() {
		for _, b := range wides() {
			if got, want := a.Cmp(b), value(a).Cmp(value(b)); got != want {
				t.Errorf("%v.Cmp(%v) = %d, want %d", a, b, got, want)
			}
		}
	}
}

// P2.3

func TestFloor(t *testing.T) {
	for _, c := range []struct {
		a       Int
		b, want int
	}{
		{Of(7), 2, 3}, {Of(-7), 2, -4}, {Of(7), -2, -4}, {Of(-7), -2, 3},
		{Of(6), 2, 3}, {Of(-6), 2, -3}, {Of(6), -2, -3}, {Of(-6), -2, 3},
		{Int{}, 5, 0}, {Int{}, -5, 0}, {Int{}, least, 0}, {Of(1), 5, 0}, {Of(-1), 5, -1}, {Of(1), -5, -1}, {Of(-1), -5, 0},
		{Of(1), least, -1}, {Of(-1), least, 0}, {Of(-1), most, -1}, {Of(most), least, -1}, {Of(least), most, -2},
		{Of(most), 1, most}, {Of(most), -1, -most}, {Of(least), 1, least}, {Of(least), least, 1},
		{Int{1, 0}, 3, 6148914691236517205}, {Int{-1, 0}, 3, -6148914691236517206}, {Int{1, 0}, -2, least}, {Int{-1, 0}, 2, least},
		// quotients that are just an int
		{Mul(most, 8).Add(Of(7)), 8, most}, {Mul(least, 8), 8, least}, {Mul(least, -8), -8, least},
		{Mul(most, -8).Add(Of(-7)), -8, most}, {Int{0, 1<<63 - 1}, 1, most}, {Int{0, 1 << 63}, -1, least},
		{Mul(least, most), most, least}, {Mul(least, least), least, least}, {Mul(most, least), least, most},
		{Mul(most, most).Add(Of(most - 1)), most, most}, {Mul(most, least).Add(Of(least + 1)), least, most},
	} {
		if n, e := c.a.Floor(c.b); n != c.want || e != api.OK {
			t.Errorf("%v.Floor(%d) = %d, %d, want %d", c.a, c.b, n, e, c.want)
		}
	}
}

func TestFloorThatIsNoInt(t *testing.T) {
	for _, c := range []struct {
		a Int
		b int
	}{
		{Int{least, 0}, 1}, {Int{least, 0}, -1}, {Int{least, 0}, least}, {Int{least, 0}, most}, {Int{most, math.MaxUint64}, 1},
		{Int{most, math.MaxUint64}, -1}, {Int{most, math.MaxUint64}, most}, {Int{most, math.MaxUint64}, least},
		{Of(least), -1}, {Int{0, 1 << 63}, 1}, {Int{0, 1<<63 + 1}, -1}, {Int{-1, 1<<63 - 1}, 1}, {Int{-1, 1<<63 - 1}, -1},
		{Int{1, 0}, 1}, {Int{1, 0}, 2}, {Int{-1, 0}, -2}, {Int{-1, 0}, 1}, {Int{0, math.MaxUint64}, 1}, {Int{0, math.MaxUint64}, -1},
		// just none
		{Mul(most, 8).Add(Of(8)), 8}, {Mul(least, 8).Add(Of(-1)), 8}, {Mul(least, -8).Add(Of(1)), -8}, {Mul(most, -8).Add(Of(-8)), -8},
		{Mul(least, most).Add(Of(-1)), most}, {Mul(most, most).Add(Of(most)), most},
		{Mul(least, least).Add(Of(1)), least}, {Mul(most, least).Add(Of(least)), least},
		// an amount of 2^64 - 1, and something left
		{Int{2, math.MaxUint64}, -3}, {Int{2, math.MaxUint64}, 3}, {Int{-3, 1}, 3}, {Int{2, math.MaxUint64 - 1}, -3},
	} {
		if n, e := c.a.Floor(c.b); n != 0 || e != api.ErrRange {
			t.Errorf("%v.Floor(%d) = %d, %d, want ErrRange", c.a, c.b, n, e)
		}
	}
}

func TestFloorByNought(t *testing.T) {
	for _, a := range wides() {
		if n, e := a.Floor(0); n != 0 || e != api.ErrArg {
			t.Errorf("%v.Floor(0) = %d, %d, want ErrArg", a, n, e)
		}
	}
}

func TestFloorAgainstBig(t *testing.T) {
	for _, a := range wides() {
		for _, b := range ints() {
			n, e := a.Floor(b)
			if want, err := wanted(value(a), b); n != want || e != err {
				t.Errorf("%v.Floor(%d) = %d, %d, want %d, %d", a, b, n, e, want, err)
			}
		}
	}
}

// Numbers close to the greatest and the least int times a divisor: there an int ends.
func TestFloorAroundInts(t *testing.T) {
	for _, b := range ints() {
		for _, q := range []int{least, least + 1, -1, 0, 1, most - 1, most} {
			for _, d := range []int{0, 1, -1, b, -b, b - 1, 1 - b, b + 1, -1 - b} {
				a := Mul(q, b).Add(Of(d))
				n, e := a.Floor(b)
				if want, err := wanted(value(a), b); n != want || e != err {
					t.Errorf("%v.Floor(%d) = %d, %d, want %d, %d", a, b, n, e, want, err)
				}
			}
		}
	}
}

func TestMulDiv(t *testing.T) {
	for _, c := range []struct {
		a, b, c, want int
		e             api.Errno
	}{
		{1 << 62, 6, 8, 3 << 60, api.OK}, {-1, 1, 2, -1, api.OK}, {-7, 1, 2, -4, api.OK}, {7, -1, 2, -4, api.OK},
		{7, 1, -2, -4, api.OK}, {-7, -1, -2, -4, api.OK}, {-7, 1, -2, 3, api.OK}, {0, least, -1, 0, api.OK},
		{most, most, most, most, api.OK}, {least, least, least, least, api.OK}, {least, most, most, least, api.OK},
		{least, -1, -1, least, api.OK}, {most, least, least, most, api.OK}, {least, most, least, most, api.OK},
		{least, -1, 1, 0, api.ErrRange}, {least, 1, -1, 0, api.ErrRange}, {most, 2, 1, 0, api.ErrRange},
		{least, least, 1, 0, api.ErrRange}, {least, least, most, 0, api.ErrRange}, {most, most, 1, 0, api.ErrRange},
		{1, 1, 0, 0, api.ErrArg}, {0, 0, 0, 0, api.ErrArg}, {least, least, 0, 0, api.ErrArg}, {most, most, 0, 0, api.ErrArg},
	} {
		if n, e := MulDiv(c.a, c.b, c.c); n != c.want || e != c.e {
			t.Errorf("MulDiv(%d, %d, %d) = %d, %d, want %d, %d", c.a, c.b, c.c, n, e, c.want, c.e)
		}
	}
}

func TestMulDivAgainstBig(t *testing.T) {
	few := []int{least, least + 1, -(1 << 62), -(1 << 32) - 1, -7, -2, -1, 0, 1, 2, 3, 10, 1 << 31, 1<<32 + 1, 1 << 62, most - 1, most}
	for _, a := range ints() {
		for _, b := range few {
			p := new(big.Int).Mul(bigOf(a), bigOf(b))
			for _, c := range few {
				n, e := MulDiv(a, b, c)
				if want, err := wanted(p, c); n != want || e != err {
					t.Errorf("MulDiv(%d, %d, %d) = %d, %d, want %d, %d", a, b, c, n, e, want, err)
				}
			}
		}
	}
}
