package rect

import (
	"iter"
	"math"
	"slices"
	"testing"

	"tempera/api"
)

const most, least = math.MaxInt, math.MinInt

// far is the greatest amount of a small rectangle's numbers.
const far = 1 << 20

// The numbers of a rectangle.
const (
	atX0 = iota
	atY0
	atX1
	atY1
	ends
)

// of is a rectangle, by its numbers.
func of(x0, y0, x1, y1 int) api.Rect {
	return api.Rect{X0: x0, Y0: y0, X1: x1, Y1: y1}
}

// rects are rectangles, by their numbers.
func rects(l [][ends]int) []api.Rect {
	var rs []api.Rect
	for _, n := range l {
		rs = append(rs, of(n[atX0], n[atY0], n[atX1], n[atY1]))
	}
	return rs
}

// points are pixels, by their numbers.
func points(l [][2]int) []api.Point {
	var ps []api.Point
	for _, n := range l {
		ps = append(ps, api.Point{X: n[0], Y: n[1]})
	}
	return ps
}

// with is a rectangle with one of its numbers set.
func with(r api.Rect, at, n int) api.Rect {
	*[ends]*int{&r.X0, &r.Y0, &r.X1, &r.Y1}[at] = n
	return r
}

// little goes through all rectangles of numbers from -1 to 2, the empty ones too.
func little() iter.Seq[api.Rect] {
	return func(yield func(api.Rect) bool) {
		for i := range 256 {
			if !yield(of(i%4-1, i/4%4-1, i/16%4-1, i/64-1)) {
				return
			}
		}
	}
}

// had is the pixels of a little rectangle, by the chapter's words: row by row, each from the left on.
func had(r api.Rect) []api.Point {
	var l []api.Point
	for y := -3; y <= 4; y++ {
		for x := -3; x <= 4; x++ {
			if r.X0 <= x && x < r.X1 && r.Y0 <= y && y < r.Y1 {
				l = append(l, api.Point{X: x, Y: y})
			}
		}
	}
	return l
}

// around is the least rectangle that has all those pixels; the zero one, if there are none.
func around(l []api.Point) api.Rect {
	var r api.Rect
	for i, p := range l {
		one := of(p.X, p.Y, p.X+1, p.Y+1)
		if i == 0 {
			r = one
		}
		r = api.Rect{X0: min(r.X0, one.X0), Y0: min(r.Y0, one.Y0), X1: max(r.X1, one.X1), Y1: max(r.Y1, one.Y1)}
	}
	return r
}

// emptyOnes are rectangles without a pixel, some of which would have one if they were asked by their width and their height.
func emptyOnes() []api.Rect {
	return rects([][ends]int{
		{}, {3, 4, 3, 4}, {3, 4, 3, 9}, {3, 4, 9, 4}, {9, 4, 3, 9}, {3, 9, 9, 4}, {9, 9, 3, 3}, {-3, -4, -5, 4}, {0, 1, 5, 0},
		{1, 0, 0, 1}, {0, 1, 1, 0}, {-far, -far, -far, far}, {far, -far, -far, far}, {-far, far, far, -far}, {far, far, -far, -far},
		{most, 0, least, 1}, {0, most, 1, least}, {most, most, least, least}, {least, least, least, most}, {least, least, most, least},
		{most, least, most, most}, {least, most, most, most}, {least, 0, least, 1}, {0, most, 1, most}, {1, 0, least, 1}, {0, 1, 1, least},
		{most, 0, -2, 1}, {0, most, 1, -2}, {-1, -1, least, least}, {least + 1, 0, least, 5}, {0, most, 5, most - 1},
	})
}

// fullOnes are rectangles with pixels, some of which would have none if they were asked by their width and their height.
func fullOnes() []api.Rect {
	return rects([][ends]int{
		{0, 0, 1, 1}, {3, 4, 9, 5}, {3, 4, 4, 9}, {-5, -4, -3, -2}, {-1, -1, 1, 1}, {-far, -far, far, far},
		{least, least, most, most}, {least, 0, most, 1}, {0, least, 1, most}, {least, least, least + 1, least + 1}, {most - 1, most - 1, most, most},
		{least, least, 0, 0}, {-1, -1, most, most}, {least, -2, 1, most}, {-2, least, most, 1},
	})
}

// P10.1

func TestEmptyTold(t *testing.T) {
	for _, r := range emptyOnes() {
		if !Empty(r) {
			t.Errorf("Empty(%v) is false", r)
		}
	}
	for _, r := range fullOnes() {
		if Empty(r) {
			t.Errorf("Empty(%v) is true", r)
		}
	}
}

func TestEmptyAndHasOfAllLittleOnes(t *testing.T) {
	for r := range little() {
		l := had(r)
		if Empty(r) != (len(l) == 0) {
			t.Errorf("Empty(%v) is %v", r, Empty(r))
		}
		for y := -3; y <= 4; y++ {
			for x := -3; x <= 4; x++ {
				if want := slices.Contains(l, api.Point{X: x, Y: y}); Has(r, x, y) != want {
					t.Errorf("Has(%v, %d, %d) is %v", r, x, y, !want)
				}
			}
		}
	}
}

// The first and the last pixel, and those just beside them.
func TestHasAtItsEdges(t *testing.T) {
	for _, r := range rects([][ends]int{{3, 4, 9, 12}, {-9, -12, -3, -4}, {-1, -1, 1, 1}, {0, 0, 1, 1}, {-far, -far, far, far}, {-far - 5, -7, far + 5, 7}, {least + 1, least + 1, most, most}, {most - 2, least + 1, most - 1, least + 2}}) {
		for _, c := range []struct {
			x, y int
			want bool
		}{
			{r.X0, r.Y0, true}, {r.X1 - 1, r.Y0, true}, {r.X0, r.Y1 - 1, true}, {r.X1 - 1, r.Y1 - 1, true},
			{r.X0 - 1, r.Y0, false}, {r.X0, r.Y0 - 1, false}, {r.X0 - 1, r.Y0 - 1, false},
			{r.X1, r.Y1 - 1, false}, {r.X1 - 1, r.Y1, false}, {r.X1, r.Y1, false},
			{r.X1, r.Y0, false}, {r.X0, r.Y1, false}, {r.X0 - 1, r.Y1 - 1, false}, {r.X1 - 1, r.Y0 - 1, false},
			{least, r.Y0, false}, {r.X0, least, false}, {most, r.Y0, false}, {r.X0, most, false}, {least, least, false}, {most, most, false},
		} {
			if got := Has(r, c.x, c.y); got != c.want {
				t.Errorf("Has(%v, %d, %d) is %v", r, c.x, c.y, got)
			}
		}
	}
}

func TestHasAtTheIntsOwnEnds(t *testing.T) {
	all := of(least, least, most, most)
	for _, n := range []int{least, least + 1, -1, 0, 1, most - 2, most - 1} {
		if !Has(all, n, 0) || !Has(all, 0, n) || !Has(all, n, n) {
			t.Errorf("%v does not have %d", all, n)
		}
		if Has(all, n, most) || Has(all, most, n) {
			t.Errorf("%v has what stands behind its end, beside %d", all, n)
		}
	}
	if Has(all, most, most) {
		t.Errorf("%v has what stands behind its end", all)
	}
}

func TestHasOfEmptyOnes(t *testing.T) {
	numbers := []int{least, least + 1, -far, -1, 0, 1, 2, 3, 4, 5, 8, 9, far, most - 1, most}
	for _, r := range emptyOnes() {
		for _, x := range numbers {
			for _, y := range numbers {
				if Has(r, x, y) {
					t.Errorf("Has(%v, %d, %d) is true", r, x, y)
				}
			}
		}
	}
}

// P10.2

func TestAndTold(t *testing.T) {
	for _, c := range []struct{ a, b, want api.Rect }{
		// The chapter's example.
		{of(0, 0, 4, 4), of(2, 3, 9, 9), of(2, 3, 4, 4)},
		// They share an edge only, or a corner, or lie apart.
		{of(0, 0, 4, 4), of(4, 0, 8, 4), api.Rect{}},
		{of(0, 0, 4, 4), of(0, 4, 4, 8), api.Rect{}},
		{of(0, 0, 4, 4), of(4, 4, 8, 8), api.Rect{}},
		{of(0, 0, 4, 4), of(9, 1, 12, 3), api.Rect{}},
		{of(0, 0, 4, 4), of(1, -9, 3, -5), api.Rect{}},
		{of(0, 0, 4, 4), of(-9, 7, -5, 9), api.Rect{}},
		// One lies within the other, or is the same.
		{of(0, 0, 9, 9), of(2, 3, 4, 5), of(2, 3, 4, 5)},
		{of(0, 0, 9, 9), of(0, 0, 9, 9), of(0, 0, 9, 9)},
		{of(0, 0, 9, 9), of(0, 3, 9, 5), of(0, 3, 9, 5)},
		// They go through each other like a cross; they share one pixel.
		{of(-2, 0, 7, 3), of(1, -5, 2, 8), of(1, 0, 2, 3)},
		{of(0, 0, 4, 4), of(3, 3, 8, 8), of(3, 3, 4, 4)},
		{of(0, 0, 4, 4), of(-3, -3, 1, 1), of(0, 0, 1, 1)},
		// The int's own least and greatest number.
		{of(least, least, most, most), of(-3, 4, 5, 6), of(-3, 4, 5, 6)},
		{of(least, least, most, most), of(least, least, most, most), of(least, least, most, most)},
		{of(least, -5, 1, 5), of(0, least, most, most), of(0, -5, 1, 5)},
		{of(least, least, 0, 0), of(0, 0, most, most), api.Rect{}},
		{of(least, 0, least+1, 1), of(most-1, 0, most, 1), api.Rect{}},
	} {
		if got := And(c.a, c.b); got != c.want {
			t.Errorf("And(%v, %v) is %v, want %v", c.a, c.b, got, c.want)
		}
		if got := And(c.b, c.a); got != c.want {
			t.Errorf("And(%v, %v) is %v, want %v", c.b, c.a, got, c.want)
		}
	}
}

func TestAroundTold(t *testing.T) {
	for _, c := range []struct{ a, b, want api.Rect }{
		// They lie apart, beside, below, and both.
		{of(0, 0, 4, 4), of(9, 1, 12, 3), of(0, 0, 12, 4)},
		{of(0, 0, 4, 4), of(1, -9, 3, -5), of(0, -9, 4, 4)},
		{of(0, 0, 4, 4), of(-9, 7, -5, 9), of(-9, 0, 4, 9)},
		// They share an edge, or pixels; one lies within the other.
		{of(0, 0, 4, 4), of(4, 0, 8, 4), of(0, 0, 8, 4)},
		{of(0, 0, 4, 4), of(2, 3, 9, 9), of(0, 0, 9, 9)},
		{of(0, 0, 9, 9), of(2, 3, 4, 5), of(0, 0, 9, 9)},
		{of(5, 6, 7, 8), of(5, 6, 7, 8), of(5, 6, 7, 8)},
		{of(-2, 0, 7, 3), of(1, -5, 2, 8), of(-2, -5, 7, 8)},
		// The int's own least and greatest number.
		{of(least, least, least+1, least+1), of(most-1, most-1, most, most), of(least, least, most, most)},
		{of(least, 3, 0, 4), of(5, 6, most, 7), of(least, 3, most, 7)},
	} {
		if got := Around(c.a, c.b); got != c.want {
			t.Errorf("Around(%v, %v) is %v, want %v", c.a, c.b, got, c.want)
		}
		if got := Around(c.b, c.a); got != c.want {
			t.Errorf("Around(%v, %v) is %v, want %v", c.b, c.a, got, c.want)
		}
	}
}

// However an empty one's numbers are, the other one stands, or is all that is around.
func TestAndAndAroundOfEmptyOnes(t *testing.T) {
	for _, none := range emptyOnes() {
		for _, r := range fullOnes() {
			if a, b := And(none, r), And(r, none); a != (api.Rect{}) || b != (api.Rect{}) {
				t.Errorf("And of %v and %v is %v, %v", none, r, a, b)
			}
			if a, b := Around(none, r), Around(r, none); a != r || b != r {
				t.Errorf("Around of %v and %v is %v, %v", none, r, a, b)
			}
		}
		for _, other := range emptyOnes() {
			if r := And(none, other); r != (api.Rect{}) {
				t.Errorf("And(%v, %v) is %v", none, other, r)
			}
			if r := Around(none, other); r != (api.Rect{}) {
				t.Errorf("Around(%v, %v) is %v", none, other, r)
			}
		}
	}
}

// Held against the pixels themselves: those of both, and the least one that has those of either.
func TestAndAndAroundOfAllLittleOnes(t *testing.T) {
	for a := range little() {
		la := had(a)
		for b := range little() {
			lb := had(b)
			var both []api.Point
			for _, p := range la {
				if slices.Contains(lb, p) {
					both = append(both, p)
				}
			}
			got := And(a, b)
			if got != around(both) || !slices.Equal(had(got), both) {
				t.Fatalf("And(%v, %v) is %v", a, b, got)
			}
			if got, want := Around(a, b), around(slices.Concat(la, lb)); got != want {
				t.Fatalf("Around(%v, %v) is %v, want %v", a, b, got, want)
			}
		}
	}
}

// P10.3

func TestOfTold(t *testing.T) {
	places := []int{-4096, -4095, -1, 0, 1, 20, 4095, 4096}
	sides := []int{0, 1, 2, 15, 4095, 4096}
	for _, x := range places {
		for _, y := range places {
			for _, w := range sides {
				for _, h := range sides {
					r, e := Of(x, y, w, h)
					if want := of(x, y, x+w, y+h); r != want || e != api.OK {
						t.Fatalf("Of(%d, %d, %d, %d) is %v, %d, want %v", x, y, w, h, r, e, want)
					}
				}
			}
		}
	}
}

// A rectangle that is empty is told as it is: where it stands, and its other side.
func TestOfEmptyOnes(t *testing.T) {
	for _, c := range []struct {
		x, y, w, h int
		want       api.Rect
	}{
		{3, 4, 0, 0, of(3, 4, 3, 4)}, {3, 4, 0, 5, of(3, 4, 3, 9)}, {3, 4, 5, 0, of(3, 4, 8, 4)},
		{-4096, 4096, 0, 4096, of(-4096, 4096, -4096, 8192)}, {0, 0, 0, 0, api.Rect{}},
	} {
		if r, e := Of(c.x, c.y, c.w, c.h); r != c.want || e != api.OK {
			t.Errorf("Of(%d, %d, %d, %d) is %v, %d, want %v", c.x, c.y, c.w, c.h, r, e, c.want)
		}
	}
}

func TestOfNumbersThatMayNotBe(t *testing.T) {
	// Some would be right if their higher bits, or their sign, were lost.
	beyond := []int{-4097, 4097, -4098, 4098, 8192, -8192, 1 << 16, -1 << 16, 1 << 31, 1<<32 + 1, -1<<32 + 1, 1 << 62, least, least + 1, most - 1, most}
	below := []int{-1, -2, -4095, -4096}
	for at := range 4 {
		wrong := beyond
		if at >= 2 {
			wrong = slices.Concat(beyond, below)
		}
		for _, base := range [][4]int{{}, {-4096, -4096, 4096, 4096}, {4096, 4096, 0, 0}, {10, 20, 30, 40}} {
			for _, n := range wrong {
				l := base
				l[at] = n
				if r, e := Of(l[0], l[1], l[2], l[3]); r != (api.Rect{}) || e != api.ErrView {
					t.Errorf("Of(%v) is %v, %d, want ErrView", l, r, e)
				}
			}
		}
	}
	for _, l := range [][4]int{{4097, 4097, 4097, 4097}, {-4097, -4097, -1, -1}, {5000, 0, -1000, 5}, {least, least, most, most}, {most, most, least, least}} {
		if r, e := Of(l[0], l[1], l[2], l[3]); r != (api.Rect{}) || e != api.ErrView {
			t.Errorf("Of(%v) is %v, %d, want ErrView", l, r, e)
		}
	}
}

func TestAreaTold(t *testing.T) {
	for _, c := range []struct {
		r    api.Rect
		want int
	}{
		{of(0, 0, 1, 1), 1}, {of(3, 4, 9, 12), 48}, {of(-9, -12, -3, -4), 48}, {of(-1, -2, 3, 4), 24},
		{of(-far, -far, far, far), 1 << 42}, {of(-far, 0, far, 1), 1 << 21}, {of(0, -far, 1, far), 1 << 21},
		{of(far-1, far-1, far, far), 1}, {of(-far, -far, 1-far, 1-far), 1}, {of(-far, 0, far-1, 3), 3 * (1<<21 - 1)},
		// No width, no height, or less; where both are below 0, their product is not.
		{api.Rect{}, 0}, {of(3, 4, 3, 9), 0}, {of(3, 4, 9, 4), 0}, {of(9, 4, 3, 9), 0}, {of(3, 9, 9, 4), 0}, {of(9, 9, 3, 3), 0},
		{of(far, far, -far, -far), 0}, {of(far, -far, -far, far), 0}, {of(-far, far, far, -far), 0}, {of(far, far, far, far), 0},
	} {
		if n, e := Area(c.r); n != c.want || e != api.OK {
			t.Errorf("Area(%v) is %d, %d, want %d", c.r, n, e, c.want)
		}
	}
	for r := range little() {
		if n, e := Area(r); n != len(had(r)) || e != api.OK {
			t.Errorf("Area(%v) is %d, %d, want %d", r, n, e, len(had(r)))
		}
	}
}

// greatOnes are rectangles that are not small, the empty ones too.
func greatOnes() []api.Rect {
	l := rects([][ends]int{
		{least, least, most, most}, {most, most, least, least}, {least, least, least, least}, {most, most, most, most},
		{far + 1, far + 1, far + 2, far + 2}, {-far - 2, -far - 2, -far - 1, -far - 1}, {far, 0, far + 1, 1}, {-far - 1, 0, -far, 1}, {0, far, 1, far + 1}, {0, -far - 1, 1, -far},
		{1 << 32, 1 << 32, 1<<32 + 1, 1<<32 + 1}, {least, least, least + 1, least + 1}, {most - 1, most - 1, most, most},
	})
	for at := range ends {
		for _, r := range rects([][ends]int{{}, {0, 0, 1, 1}, {3, 4, 5, 6}, {-far, -far, far, far}, {far, far, -far, -far}}) {
			for _, n := range []int{far + 1, -far - 1, far + 2, 1<<21 + 1, 1 << 32, 1<<32 + 1, -1 << 32, 1 << 62, least, least + 1, most - 1, most} {
				l = append(l, with(r, at, n))
			}
		}
	}
	return l
}

func TestAreaOfOnesThatAreNotSmall(t *testing.T) {
	for _, r := range greatOnes() {
		if n, e := Area(r); n != 0 || e != api.ErrRange {
			t.Errorf("Area(%v) is %d, %d, want ErrRange", r, n, e)
		}
	}
}

// P10.4

func TestPixelsTold(t *testing.T) {
	want := points([][2]int{{-1, 4}, {0, 4}, {1, 4}, {-1, 5}, {0, 5}, {1, 5}})
	if got := slices.Collect(Pixels(of(-1, 4, 2, 6))); !slices.Equal(got, want) {
		t.Errorf("the pixels are %v, want %v", got, want)
	}
}

func TestPixelsOfAllLittleOnes(t *testing.T) {
	for r := range little() {
		if got := slices.Collect(Pixels(r)); !slices.Equal(got, had(r)) {
			t.Errorf("the pixels of %v are %v", r, got)
		}
	}
}

func TestPixelsOfNone(t *testing.T) {
	for _, r := range slices.Concat(emptyOnes(), greatOnes()) {
		for p := range Pixels(r) {
			t.Errorf("%v tells %v", r, p)
			break
		}
	}
}

// The outermost numbers that are small, in a row, in a column, and at corners.
func TestPixelsOfTheFarthest(t *testing.T) {
	n := 0
	for p := range Pixels(of(-far, far-1, far, far)) {
		if p != (api.Point{X: n - far, Y: far - 1}) {
			t.Fatalf("pixel %d of the row is %v", n, p)
		}
		n++
	}
	if n != 2*far {
		t.Errorf("the row has %d", n)
	}
	n = 0
	for p := range Pixels(of(-far, -far, 1-far, far)) {
		if p != (api.Point{X: -far, Y: n - far}) {
			t.Fatalf("pixel %d of the column is %v", n, p)
		}
		n++
	}
	if n != 2*far {
		t.Errorf("the column has %d", n)
	}
	if got := slices.Collect(Pixels(of(far-1, -far, far, 1-far))); !slices.Equal(got, points([][2]int{{far - 1, -far}})) {
		t.Errorf("the corner has %v", got)
	}
}

// taken is the first pixels that an iterator tells, and how often it tells one behind the last that was wanted.
func taken(seq iter.Seq[api.Point], wanted int) ([]api.Point, int) {
	var l []api.Point
	unwanted := 0
	seq(func(p api.Point) bool {
		if len(l) == wanted {
			unwanted++
			return false
		}
		l = append(l, p)
		return len(l) < wanted
	})
	return l, unwanted
}

// They are wanted no longer behind the first, in the middle of a row, at its end, at the next one's beginning: each time the iterator ends there, and begins anew.
func TestPixelsThatAreWantedNoLonger(t *testing.T) {
	r := of(-1, -1, 3, 2)
	all, seq := had(r), Pixels(r)
	for wanted := 1; wanted <= len(all); wanted++ {
		got, unwanted := taken(seq, wanted)
		if !slices.Equal(got, all[:wanted]) || unwanted != 0 {
			t.Errorf("the first %d are %v, and %d behind them", wanted, got, unwanted)
		}
	}
	for range 2 {
		if got := slices.Collect(seq); !slices.Equal(got, all) {
			t.Errorf("gone through again: %v", got)
		}
	}
}

// The greatest small one has too many pixels to be gone through: what is wanted of it comes at once.
func TestPixelsOfTheGreatestSmallOne(t *testing.T) {
	seq := Pixels(of(-far, -far, far, far))
	for range 2 {
		if got, unwanted := taken(seq, 2); !slices.Equal(got, points([][2]int{{-far, -far}, {1 - far, -far}})) || unwanted != 0 {
			t.Errorf("the first two are %v, and %d behind them", got, unwanted)
		}
	}
	got, _ := taken(seq, 2*far+1)
	if last := got[len(got)-1]; last != (api.Point{X: -far, Y: 1 - far}) || got[len(got)-2] != (api.Point{X: far - 1, Y: -far}) {
		t.Errorf("behind the first row stands %v", last)
	}
}

// One iterator within itself, and beside that of another rectangle: none knows of the other.
func TestPixelsWithinPixels(t *testing.T) {
	r, other := of(0, 1, 2, 3), of(5, 5, 6, 7)
	seq, beside := Pixels(r), Pixels(other)
	var outer []api.Point
	for p := range seq {
		outer = append(outer, p)
		if got := slices.Collect(seq); !slices.Equal(got, had(r)) {
			t.Errorf("within, behind %v: %v", p, got)
		}
		if got := slices.Collect(beside); !slices.Equal(got, points([][2]int{{5, 5}, {5, 6}})) {
			t.Errorf("beside, behind %v: %v", p, got)
		}
	}
	if !slices.Equal(outer, had(r)) {
		t.Errorf("outside: %v", outer)
	}
}

// A rectangle that is changed behind the call is another one: the iterator is of that it was made for.
func TestPixelsOfWhatWasHandedIn(t *testing.T) {
	r := of(0, 0, 2, 1)
	seq := Pixels(r)
	r.X1, r.Y1 = 9, 9
	if got := slices.Collect(seq); !slices.Equal(got, points([][2]int{{0, 0}, {1, 0}})) {
		t.Errorf("the pixels are %v, though %v is another one", got, r)
	}
}

// Pixels, Has and Area agree.
func TestPixelsAreThoseItHas(t *testing.T) {
	for _, r := range rects([][ends]int{{3, 4, 30, 44}, {-20, -30, 7, 2}, {far - 9, -far, far, 20 - far}, {-4096, 4090, -4090, 4096}}) {
		n := 0
		for p := range Pixels(r) {
			if !Has(r, p.X, p.Y) {
				t.Errorf("%v tells %v, and does not have it", r, p)
			}
			n++
		}
		if area, e := Area(r); area != n || e != api.OK {
			t.Errorf("Area(%v) is %d, %d, and there are %d", r, area, e, n)
		}
	}
}
