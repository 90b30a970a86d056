package texel

import (
	"math"
	"slices"
	"testing"

	"tempera/api"
)

const most, least = math.MaxInt, math.MinInt

const (
	// far is the greatest amount of a texel's place.
	far = 1 << 20
	// wide is the greatest amount of a sample's place, in parts of 256 of a texel.
	wide = 1 << 16
	// white is the greatest packed colour.
	white = 1<<32 - 1
)

// kinds are all kinds of wrapping.
func kinds() []int {
	return []int{0, 1, 2}
}

// wrongKinds are numbers that are no kind, some of which would be if their higher bits, or their sign, were lost.
func wrongKinds() []int {
	return []int{-1, 3, -2, -3, 4, 5, 1 << 8, 1<<8 + 1, -1 << 16, 1 << 32, 1<<32 + 2, -1 << 32, 1 << 62, least, least + 1, least + 2, most - 1, most}
}

// wrongSides are numbers that are not from 1 to 64, some of which would be if their higher bits, or their sign, were lost.
func wrongSides() []int {
	return []int{
		0, 65, -1, -2, -63, -64, -65, 66, 127, 128, 256, 257, -255, 1 << 16, 1<<16 + 1, 1<<31 + 1, 1 << 32, 1<<32 + 1, 1<<32 + 64, -1 << 32, -1<<32 + 64,
		1 << 62, least, least + 1, least + 64, most - 1, most,
	}
}

// wrongPlaces are numbers beyond an amount, some of which would not be if their higher bits, or their sign, were lost.
func wrongPlaces(end int) []int {
	return []int{
		end + 1, -end - 1, end + 2, -end - 2, 2 * end, -2 * end, 1 << 31, -1 << 31, 1 << 32, 1<<32 + 1, -1 << 32, -1<<32 + 1, 1 << 62, -1 << 62,
		least, least + 1, least + end, most - end, most - 1, most,
	}
}

// notPacked are numbers that are no packed colour, some of which would be if their higher bits, or their sign, were lost.
func notPacked() []int {
	return []int{-1, 1 << 32, -2, 1<<32 + 1, -255, -256, -1 << 31, -1<<32 + 1, -1 << 32, 1 << 33, 1 << 40, 1 << 62, least, least + 1, least + white, most - white, most - 1, most}
}

// color is a packed colour's channels.
func color(n int) api.Color {
	return api.Color{R: n / 16777216, G: n / 65536 % 256, B: n / 256 % 256, A: n % 256}
}

// texture is a texture of packed colours that all differ, by a rule that is the same each time: the ends of each channel are among them.
func texture(w, h int) api.Tex {
	t := api.Tex{W: w, H: h}
	ends := []int{0, white, 0xff000080, 0x00ff01fe, 0x7f80ff00}
	for i := range w * h {
		n := (i*2654435761 + 12345) % (1 << 32)
		if i < len(ends) {
			n = ends[i]
		}
		t.L = append(t.L, n)
	}
	return t
}

// even is a texture of one colour.
func even(w, h, n int) api.Tex {
	return api.Tex{W: w, H: h, L: slices.Repeat([]int{n}, w*h)}
}

// wrong is a texture that is not right, and its error.
type wrong struct {
	t api.Tex
	e api.Errno
}

// wrongTextures are textures that are not right: where several errors apply, the first one is told.
func wrongTextures() []wrong {
	var l []wrong
	for _, n := range wrongSides() {
		for _, side := range []int{1, 2, 64} {
			for _, numbers := range [][]int{nil, {0}, {-1}, {1 << 32}, make([]int, side), make([]int, 64*side)} {
				l = append(l, wrong{api.Tex{W: n, H: side, L: numbers}, api.ErrRange}, wrong{api.Tex{W: side, H: n, L: numbers}, api.ErrRange})
			}
		}
		for _, other := range wrongSides() {
			l = append(l, wrong{api.Tex{W: n, H: other}, api.ErrRange}, wrong{api.Tex{W: n, H: other, L: []int{0}}, api.ErrRange})
		}
	}
	// Both are below 0, and their product is not.
	l = append(l, wrong{api.Tex{W: -1, H: -1, L: []int{0}}, api.ErrRange}, wrong{api.Tex{W: -2, H: -2, L: make([]int, 4)}, api.ErrRange})
	for _, s := range [][2]int{{1, 1}, {1, 2}, {2, 1}, {3, 5}, {1, 64}, {64, 1}, {64, 64}} {
		l = append(l, wrongNumbers(s[0], s[1])...)
	}
	return l
}

// wrongNumbers are textures of sides that may be, with too few numbers, too many, or such as are no packed colour.
func wrongNumbers(w, h int) []wrong {
	var l []wrong
	for _, many := range []int{0, 1, w, h, w*h - 1, w*h + 1, w * (h + 1), 2 * w * h, 4096} {
		if many != w*h {
			// That numbers are no packed colours comes behind.
			few := api.Tex{W: w, H: h, L: make([]int, many)}
			l = append(l, wrong{few, api.ErrForm}, wrong{api.Tex{W: w, H: h, L: slices.Repeat([]int{-1}, many)}, api.ErrForm})
		}
	}
	for _, n := range notPacked() {
		for _, at := range []int{0, w * h / 2, w*h - 1} {
			for _, t := range []api.Tex{texture(w, h), even(w, h, 0), even(w, h, white), even(w, h, n)} {
				t.L[at] = n
				l = append(l, wrong{t, api.ErrRange})
			}
		}
	}
	return l
}

// walked is the place that a place is wrapped to, step by step from 0 on: a clamped one stops at the ends, one that repeats goes on at the other end, a mirrored one stays a step and turns round.
func walked(kind, n, side int) int {
	at, way := 0, 1
	if n < 0 {
		way = -1
	}
	steps := n * way
	for range steps {
		to := at + way
		switch {
		case to >= 0 && to < side:
			at = to
		case kind == api.WrapRepeat:
			at = (to + side) % side
		case kind == api.WrapMirror:
			way = -way
		}
	}
	return at
}

// near are places around the ends of a side, of twice, and of thrice that side, in both directions.
func near(side int) []int {
	var l []int
	for _, end := range []int{0, side, 2 * side, 3 * side, 4 * side} {
		for away := -2; away <= 2; away++ {
			l = append(l, end+away, -end+away)
		}
	}
	return l
}

// texelAt is a texel by the chapter's words, whose wrapping is asked of walked.
func texelAt(t api.Tex, x, y, kind int) api.Color {
	return color(t.L[walked(kind, y, t.H)*t.W+walked(kind, x, t.W)])
}

// downwards is a number by 256, cut downwards.
func downwards(n int) int {
	return int(math.Floor(float64(n) / 256))
}

// ahead is the texels, from one place on, under 256 parts that lie side by side, and how many parts of each.
func ahead(from int) map[int]int {
	m := map[int]int{}
	for part := range 256 {
		m[downwards(from+part)]++
	}
	return m
}

// spread is a soft sample by another rule than the chapter's: what all parts of a square as great as a texel, the place in its middle, have, together and shared by their number, to the nearest.
func spread(t api.Tex, u, v, kind int) api.Color {
	var sum api.Color
	for y, rows := range ahead(v - 128) {
		for x, columns := range ahead(u - 128) {
			c, parts := texelAt(t, x, y, kind), rows*columns
			sum = api.Color{R: sum.R + c.R*parts, G: sum.G + c.G*parts, B: sum.B + c.B*parts, A: sum.A + c.A*parts}
		}
	}
	share := func(n int) int { return int(math.Floor(float64(n)/65536 + 0.5)) }
	return api.Color{R: share(sum.R), G: share(sum.G), B: share(sum.B), A: share(sum.A)}
}

// sample asks Sample of what may be.
func sample(t *testing.T, q api.Tex, u, v, kind int, soft bool) api.Color {
	t.Helper()
	c, e := Sample(q, u, v, kind, soft)
	if e != api.OK {
		t.Fatalf("Sample(%d by %d, %d, %d, %d, %t) has the error %d", q.W, q.H, u, v, kind, soft, e)
	}
	return c
}

// P14.1

func TestRightTextures(t *testing.T) {
	for _, w := range []int{1, 2, 3, 63, 64} {
		for _, h := range []int{1, 2, 7, 63, 64} {
			for _, q := range []api.Tex{texture(w, h), even(w, h, 0), even(w, h, white), even(w, h, 1<<31)} {
				if e := Check(q); e != api.OK {
					t.Errorf("Check of %d by %d is %d", w, h, e)
				}
			}
		}
	}
}

func TestTexturesThatAreNotRight(t *testing.T) {
	for _, c := range wrongTextures() {
		if e := Check(c.t); e != c.e {
			t.Fatalf("Check of %d by %d with %d numbers is %d, want %d", c.t.W, c.t.H, len(c.t.L), e, c.e)
		}
	}
}

// Each number is asked, wherever it stands, and numbers do not make up for each other.
func TestCheckAsksEachNumber(t *testing.T) {
	for at := range 15 {
		for _, n := range notPacked() {
			q := texture(3, 5)
			q.L[at] = n
			if e := Check(q); e != api.ErrRange {
				t.Errorf("Check with %d at %d is %d", n, at, e)
			}
			for other := range 15 {
				if other != at {
					q := texture(3, 5)
					q.L[at], q.L[other] = n, -n
					if e := Check(q); e != api.ErrRange {
						t.Errorf("Check with %d at %d, and what makes up for it at %d, is %d", n, at, other, e)
					}
				}
			}
		}
	}
}

// Spare room is not a texture's own: what stands there is not asked, and does not stand in for what is missing.
func TestCheckDoesNotAskSpareRoom(t *testing.T) {
	l := []int{1, 2, -1, 1 << 32}
	if e := Check(api.Tex{W: 2, H: 1, L: l[:2]}); e != api.OK {
		t.Errorf("Check with wrong numbers behind its own is %d", e)
	}
	if e := Check(api.Tex{W: 2, H: 2, L: []int{1, 2, 3, 4}[:3]}); e != api.ErrForm {
		t.Errorf("Check with the last number in the spare room is %d", e)
	}
}

// P14.2

func TestWrapTold(t *testing.T) {
	for _, c := range []struct{ n, side, clamp, repeat, mirror int }{
		// The chapter's example.
		{-1, 4, 0, 3, 0},
		{0, 4, 0, 0, 0}, {1, 4, 1, 1, 1}, {3, 4, 3, 3, 3}, {4, 4, 3, 0, 3}, {5, 4, 3, 1, 2}, {7, 4, 3, 3, 0}, {8, 4, 3, 0, 0}, {9, 4, 3, 1, 1},
		{-2, 4, 0, 2, 1}, {-4, 4, 0, 0, 3}, {-5, 4, 0, 3, 3}, {-8, 4, 0, 0, 0}, {-9, 4, 0, 3, 0}, {11, 4, 3, 3, 3}, {12, 4, 3, 0, 3},
		{-1, 1, 0, 0, 0}, {0, 1, 0, 0, 0}, {1, 1, 0, 0, 0}, {2, 1, 0, 0, 0}, {far, 1, 0, 0, 0}, {-far, 1, 0, 0, 0},
		{-1, 64, 0, 63, 0}, {0, 64, 0, 0, 0}, {63, 64, 63, 63, 63}, {64, 64, 63, 0, 63}, {65, 64, 63, 1, 62}, {127, 64, 63, 63, 0}, {128, 64, 63, 0, 0},
		{129, 64, 63, 1, 1}, {-64, 64, 0, 0, 63}, {-65, 64, 0, 63, 63}, {-128, 64, 0, 0, 0}, {-129, 64, 0, 63, 0},
		{far, 64, 63, 0, 0}, {-far, 64, 0, 0, 0}, {far - 1, 64, 63, 63, 0}, {1 - far, 64, 0, 1, 1},
		// 2^20 is 349525 times 3, and 1; 174762 times 6, and 4.
		{far, 3, 2, 1, 1}, {-far, 3, 0, 2, 2}, {far - 1, 3, 2, 0, 2}, {1 - far, 3, 0, 0, 2},
	} {
		for kind, want := range []int{c.clamp, c.repeat, c.mirror} {
			if got, e := Wrap(kind, c.n, c.side); got != want || e != api.OK {
				t.Errorf("Wrap(%d, %d, %d) is %d, %d, want %d", kind, c.n, c.side, got, e, want)
			}
		}
	}
}

// Held against what a walk comes to, at each side.
func TestWrapWalked(t *testing.T) {
	for side := 1; side <= 64; side++ {
		for _, kind := range kinds() {
			places := append(near(side), 1000, -1000, 999, -999)
			for n := -200; n <= 200; n++ {
				places = append(places, n)
			}
			for _, n := range places {
				if got, e := Wrap(kind, n, side); got != walked(kind, n, side) || e != api.OK {
					t.Fatalf("Wrap(%d, %d, %d) is %d, %d, want %d", kind, n, side, got, e, walked(kind, n, side))
				}
			}
		}
	}
}

// The greatest and the least place that there are, and those next to them.
func TestWrapAtTheEnds(t *testing.T) {
	for _, side := range []int{1, 2, 3, 7, 48, 63, 64} {
		for _, kind := range kinds() {
			for _, n := range []int{far, far - 1, -far, 1 - far} {
				if got, e := Wrap(kind, n, side); got != walked(kind, n, side) || e != api.OK {
					t.Errorf("Wrap(%d, %d, %d) is %d, %d, want %d", kind, n, side, got, e, walked(kind, n, side))
				}
			}
		}
	}
}

func TestWrapOfWrongKinds(t *testing.T) {
	numbers := append(wrongPlaces(far), 0, 1, -1, far, -far)
	sides := append(wrongSides(), 1, 4, 64)
	for _, kind := range wrongKinds() {
		for _, n := range numbers {
			for _, side := range sides {
				if got, e := Wrap(kind, n, side); got != 0 || e != api.ErrKind {
					t.Fatalf("Wrap(%d, %d, %d) is %d, %d", kind, n, side, got, e)
				}
			}
		}
	}
}

func TestWrapOfWrongSidesAndPlaces(t *testing.T) {
	numbers := append(wrongPlaces(far), 0, 1, -1, far, -far)
	for _, kind := range kinds() {
		for _, side := range wrongSides() {
			for _, n := range numbers {
				if got, e := Wrap(kind, n, side); got != 0 || e != api.ErrRange {
					t.Fatalf("Wrap(%d, %d, %d) is %d, %d", kind, n, side, got, e)
				}
			}
		}
		for _, side := range []int{1, 4, 63, 64} {
			for _, n := range wrongPlaces(far) {
				if got, e := Wrap(kind, n, side); got != 0 || e != api.ErrRange {
					t.Fatalf("Wrap(%d, %d, %d) is %d, %d", kind, n, side, got, e)
				}
			}
		}
	}
}

// P14.3

func TestAtTold(t *testing.T) {
	// 3 by 2, of colours that are told apart by red (the column) and green (the row).
	q := api.Tex{W: 3, H: 2, L: []int{0x000000ff, 0x010000fe, 0x020000fd, 0x000100fc, 0x010100fb, 0x020100fa}}
	for _, c := range []struct{ x, y, wrap, column, row int }{
		{0, 0, 0, 0, 0}, {1, 0, 0, 1, 0}, {2, 0, 0, 2, 0}, {0, 1, 0, 0, 1}, {2, 1, 0, 2, 1}, {2, 1, 1, 2, 1}, {1, 1, 2, 1, 1},
		{-1, -1, 0, 0, 0}, {3, -1, 0, 2, 0}, {-1, 2, 0, 0, 1}, {3, 2, 0, 2, 1}, {far, far, 0, 2, 1}, {-far, far, 0, 0, 1},
		{-1, -1, 1, 2, 1}, {3, -1, 1, 0, 1}, {-1, 2, 1, 2, 0}, {3, 2, 1, 0, 0}, {5, 5, 1, 2, 1}, {6, 4, 1, 0, 0}, {far, far, 1, 1, 0},
		{-1, -1, 2, 0, 0}, {3, -1, 2, 2, 0}, {-2, -2, 2, 1, 1}, {3, 2, 2, 2, 1}, {5, 3, 2, 0, 0}, {6, 4, 2, 0, 0}, {-far, -far, 2, 2, 0},
	} {
		if got, e := At(q, c.x, c.y, c.wrap); got != color(q.L[c.row*3+c.column]) || e != api.OK {
			t.Errorf("At(%d, %d, %d) is %v, %d, want what is at %d, %d", c.x, c.y, c.wrap, got, e, c.column, c.row)
		}
	}
}

// At places around the ends of each side, in both directions together.
func TestAtOfMany(t *testing.T) {
	for _, q := range []api.Tex{texture(1, 1), texture(1, 5), texture(5, 1), texture(3, 2), texture(2, 3), texture(7, 4), texture(64, 3), texture(3, 64)} {
		for _, kind := range kinds() {
			for _, x := range near(q.W) {
				for _, y := range near(q.H) {
					if got, e := At(q, x, y, kind); got != texelAt(q, x, y, kind) || e != api.OK {
						t.Fatalf("At(%d by %d, %d, %d, %d) is %v, %d", q.W, q.H, x, y, kind, got, e)
					}
				}
			}
		}
	}
}

// Each texel of the greatest texture stands where it was put.
func TestAtOfAllTexels(t *testing.T) {
	q := texture(64, 64)
	for i, n := range q.L {
		for _, kind := range kinds() {
			if got, e := At(q, i%64, i/64, kind); got != color(n) || e != api.OK {
				t.Fatalf("At(%d, %d, %d) is %v, %d", i%64, i/64, kind, got, e)
			}
		}
	}
}

// The whole order of errors: the texture's own ahead of the kind, the kind ahead of the place.
func TestErrorsInTheirOrder(t *testing.T) {
	right := texture(2, 3)
	for _, c := range []struct {
		t       api.Tex
		x, wrap int
		want    api.Errno
	}{
		{api.Tex{W: 0, H: 3, L: []int{-1}}, most, 3, api.ErrRange},
		{api.Tex{W: 2, H: 65, L: []int{-1}}, least, -1, api.ErrRange},
		{api.Tex{W: 2, H: 3, L: []int{-1}}, most, 3, api.ErrForm},
		{api.Tex{W: 2, H: 3, L: nil}, most, -1, api.ErrForm},
		{even(2, 3, -1), most, 3, api.ErrRange},
		{even(2, 3, 1<<32), 0, -1, api.ErrRange},
		{right, most, 3, api.ErrKind},
		{right, least, -1, api.ErrKind},
		{right, 0, 3, api.ErrKind},
		{right, most, 0, api.ErrRange},
		{right, least, 2, api.ErrRange},
	} {
		wrongCalls(t, c.t, c.x, 0, c.wrap, c.want)
		wrongCalls(t, c.t, 0, c.x, c.wrap, c.want)
		wrongCalls(t, c.t, c.x, c.x, c.wrap, c.want)
	}
}

// wrongCalls asks At, and Sample both ways, of what may not be.
func wrongCalls(t *testing.T, q api.Tex, x, y, wrap int, want api.Errno) {
	t.Helper()
	if c, e := At(q, x, y, wrap); c != (api.Color{}) || e != want {
		t.Fatalf("At(%d by %d with %d numbers, %d, %d, %d) is %v, %d, want %d", q.W, q.H, len(q.L), x, y, wrap, c, e, want)
	}
	for _, soft := range []bool{false, true} {
		if c, e := Sample(q, x, y, wrap, soft); c != (api.Color{}) || e != want {
			t.Fatalf("Sample(%d by %d with %d numbers, %d, %d, %d, %t) is %v, %d, want %d", q.W, q.H, len(q.L), x, y, wrap, soft, c, e, want)
		}
	}
}

// Whatever else is asked of them.
func TestCallsOfTexturesThatAreNotRight(t *testing.T) {
	for _, c := range wrongTextures() {
		for _, wrap := range []int{0, 1, 2, -1, 3} {
			for _, n := range []int{0, far + 1, least} {
				wrongCalls(t, c.t, n, 0, wrap, c.e)
				wrongCalls(t, c.t, 0, n, wrap, c.e)
			}
		}
	}
}

func TestCallsOfWrongKinds(t *testing.T) {
	q := texture(3, 2)
	for _, wrap := range wrongKinds() {
		for _, n := range []int{0, 1, -1, wide, far, far + 1, -far - 1, least, most} {
			wrongCalls(t, q, n, 0, wrap, api.ErrKind)
			wrongCalls(t, q, 0, n, wrap, api.ErrKind)
		}
	}
}

func TestAtOfWrongPlaces(t *testing.T) {
	q := texture(3, 2)
	for _, kind := range kinds() {
		for _, n := range wrongPlaces(far) {
			for _, p := range [][2]int{{n, 0}, {0, n}, {n, n}, {n, far}, {-far, n}, {n, -1}} {
				wrongCalls(t, q, p[0], p[1], kind, api.ErrRange)
			}
		}
		for _, n := range []int{far, -far} {
			if c, e := At(q, n, -n, kind); c != texelAt(q, n, -n, kind) || e != api.OK {
				t.Errorf("At(%d, %d, %d) is %v, %d", n, -n, kind, c, e)
			}
		}
	}
}

// Places that At has are beyond Sample's, which are parts.
func TestSampleOfWrongPlaces(t *testing.T) {
	q := texture(3, 2)
	for _, kind := range kinds() {
		for _, soft := range []bool{false, true} {
			for _, n := range append(wrongPlaces(wide), far, -far) {
				for _, p := range [][2]int{{n, 0}, {0, n}, {n, n}, {n, wide}, {-wide, n}, {n, 128}} {
					if c, e := Sample(q, p[0], p[1], kind, soft); c != (api.Color{}) || e != api.ErrRange {
						t.Fatalf("Sample(%v, %d, %t) is %v, %d", p, kind, soft, c, e)
					}
				}
			}
		}
	}
}

func TestHardSampleTold(t *testing.T) {
	q := api.Tex{W: 3, H: 2, L: []int{0x000000ff, 0x010000fe, 0x020000fd, 0x000100fc, 0x010100fb, 0x020100fa}}
	for _, c := range []struct{ u, v, wrap, column, row int }{
		{0, 0, 0, 0, 0}, {255, 255, 0, 0, 0}, {256, 255, 0, 1, 0}, {255, 256, 0, 0, 1}, {511, 511, 0, 1, 1}, {512, 256, 0, 2, 1}, {128, 128, 0, 0, 0}, {384, 128, 0, 1, 0},
		{-1, -1, 0, 0, 0}, {768, 512, 0, 2, 1}, {wide, -wide, 0, 2, 0}, {-wide, wide, 0, 0, 1},
		{-1, -1, 1, 2, 1}, {-256, -256, 1, 2, 1}, {-257, -257, 1, 1, 0}, {768, 512, 1, 0, 0}, {767, 511, 1, 2, 1},
		{-1, -1, 2, 0, 0}, {-256, -256, 2, 0, 0}, {-257, -257, 2, 1, 1}, {768, 512, 2, 2, 1}, {1024, 768, 2, 1, 0},
		// 256 texels away: 85 times 3, and 1.
		{wide, wide, 1, 1, 0}, {-wide, -wide, 1, 2, 0}, {wide, wide, 2, 1, 0}, {wide - 1, wide - 1, 1, 0, 1}, {wide - 1, wide - 1, 2, 2, 0},
	} {
		if got := sample(t, q, c.u, c.v, c.wrap, false); got != color(q.L[c.row*3+c.column]) {
			t.Errorf("Sample(%d, %d, %d, false) is %v, want what is at %d, %d", c.u, c.v, c.wrap, got, c.column, c.row)
		}
	}
}

// gray is a packed colour of four numbers that do not go alike.
func gray(n int) int {
	return n*16777216 + (255-n)*65536 + n/2*256 + 255
}

func TestSoftSampleTold(t *testing.T) {
	// 0 and 100, 200 and 255 below.
	q := api.Tex{W: 2, H: 2, L: []int{gray(0), gray(100), gray(200), gray(255)}}
	for _, c := range []struct{ u, v, wrap, red int }{
		// In the middles.
		{128, 128, 0, 0}, {384, 128, 0, 100}, {128, 384, 0, 200}, {384, 384, 0, 255},
		// Between two, and between all: 138.75.
		{256, 128, 0, 50}, {256, 384, 0, 228}, {128, 256, 0, 100}, {384, 256, 0, 178}, {256, 256, 0, 139},
		// A quarter, and a part, of the way; 0.39, and 0.78, of 1.
		{192, 128, 0, 25}, {129, 128, 0, 0}, {130, 128, 0, 1}, {128, 192, 0, 50}, {383, 128, 0, 100}, {382, 128, 0, 99},
		// At the borders, which clamped places go beyond.
		{0, 128, 0, 0}, {512, 128, 0, 100}, {128, 0, 0, 0}, {128, 512, 0, 200}, {0, 0, 0, 0}, {512, 0, 0, 100}, {0, 512, 0, 200}, {512, 512, 0, 255},
		{0, 256, 0, 100}, {512, 256, 0, 178}, {256, 0, 0, 50}, {256, 512, 0, 228}, {-wide, -wide, 0, 0}, {wide, -wide, 0, 100}, {-wide, wide, 0, 200}, {wide, wide, 0, 255},
		// Places that repeat go on at the other end.
		{0, 128, 1, 50}, {512, 128, 1, 50}, {128, 0, 1, 100}, {128, 512, 1, 100}, {0, 0, 1, 139}, {512, 512, 1, 139}, {512, 0, 1, 139}, {0, 512, 1, 139},
		{64, 128, 1, 25}, {-64, 128, 1, 75}, {448, 128, 1, 75}, {128, 64, 1, 50}, {128, -64, 1, 150}, {wide, wide, 1, 139}, {-wide, -wide, 1, 139},
		// Mirrored ones stay, and turn round.
		{0, 128, 2, 0}, {-128, 128, 2, 0}, {-256, 128, 2, 50}, {512, 128, 2, 100}, {640, 128, 2, 100}, {768, 128, 2, 50}, {0, 0, 2, 0}, {512, 512, 2, 255}, {768, 768, 2, 139},
		{wide, wide, 2, 0}, {-wide, -wide, 2, 0}, {wide - 256, 128, 2, 50},
	} {
		if got := sample(t, q, c.u, c.v, c.wrap, true); got.R != c.red || got.A != 255 {
			t.Errorf("Sample(%d, %d, %d, true) is %v, want red %d", c.u, c.v, c.wrap, got, c.red)
		}
	}
}

// What is cut off: a half is the next one, and what is short of it is not.
func TestSoftSampleIsCut(t *testing.T) {
	q := api.Tex{W: 2, H: 1, L: []int{0x00ff00ff, 0x01fefe00}}
	for left := range 257 {
		share := func(a, b int) int { return (a*(256-left) + b*left + 128) / 256 }
		want := api.Color{R: share(0, 1), G: share(255, 254), B: share(0, 254), A: share(255, 0)}
		if got := sample(t, q, 128+left, 128, 0, true); got != want {
			t.Errorf("Sample at %d beyond the middle is %v, want %v", left, got, want)
		}
	}
	// All four have a part: 1 where 2^15 of 2^16 is reached alone.
	q = api.Tex{W: 2, H: 2, L: []int{0, 0, 0, 0x01010101}}
	for _, c := range []struct{ right, below, want int }{{255, 128, 0}, {128, 255, 0}, {181, 181, 0}, {182, 181, 1}, {182, 180, 0}, {255, 129, 1}, {129, 255, 1}, {255, 255, 1}, {1, 1, 0}} {
		got := sample(t, q, 128+c.right, 128+c.below, 1, true)
		if want := (api.Color{R: c.want, G: c.want, B: c.want, A: c.want}); got != want {
			t.Errorf("Sample at %d, %d beyond the middle is %v, want %v", c.right, c.below, got, want)
		}
	}
}

// places are samples' places around a side's ends, in texels' middles, between two, and at odd parts of them.
func places(side int) []int {
	l := []int{wide, wide - 1, -wide, 1 - wide, 77, 1234, -999}
	for _, texel := range []int{-side - 1, -side, -1, 0, 1, side - 1, side, side + 1, 2 * side} {
		l = append(l, texel*256, texel*256+1, texel*256+127, texel*256+128, texel*256+129, texel*256+255)
	}
	return l
}

// Hard ones and soft ones, by each kind, in both directions together.
func TestSamplesOfMany(t *testing.T) {
	for _, q := range []api.Tex{texture(1, 1), texture(1, 4), texture(3, 1), texture(2, 3), texture(5, 4)} {
		for _, kind := range kinds() {
			for _, u := range places(q.W) {
				for _, v := range places(q.H) {
					if got, want := sample(t, q, u, v, kind, false), texelAt(q, downwards(u), downwards(v), kind); got != want {
						t.Fatalf("Sample(%d by %d, %d, %d, %d, false) is %v, want %v", q.W, q.H, u, v, kind, got, want)
					}
				}
			}
		}
	}
	for _, q := range []api.Tex{texture(1, 1), texture(1, 4), texture(3, 2)} {
		for _, kind := range kinds() {
			for _, u := range places(q.W) {
				for _, v := range []int{-wide, -257, -128, -1, 0, 100, 128, 256, q.H*256 - 128, q.H*256 - 1, q.H * 256, wide} {
					if got, want := sample(t, q, u, v, kind, true), spread(q, u, v, kind); got != want {
						t.Fatalf("Sample(%d by %d, %d, %d, %d, true) is %v, want %v", q.W, q.H, u, v, kind, got, want)
					}
				}
			}
		}
	}
}

// The greatest texture, across its borders and corners.
func TestSamplesOfTheGreatestTexture(t *testing.T) {
	q := texture(64, 64)
	ends := []int{-wide, -129, -128, -127, 0, 127, 128, 8000, 64*256 - 129, 64*256 - 128, 64*256 - 127, 64*256 - 1, 64 * 256, 64*256 + 128, wide}
	for _, kind := range kinds() {
		for i, u := range ends {
			for _, v := range []int{u, ends[len(ends)-1-i], 5003} {
				if got, want := sample(t, q, u, v, kind, true), spread(q, u, v, kind); got != want {
					t.Fatalf("Sample(%d, %d, %d, true) is %v, want %v", u, v, kind, got, want)
				}
				if got, want := sample(t, q, u, v, kind, false), texelAt(q, downwards(u), downwards(v), kind); got != want {
					t.Fatalf("Sample(%d, %d, %d, false) is %v, want %v", u, v, kind, got, want)
				}
			}
		}
	}
}

// What is to the right is not taken for what is below.
func TestSidesAreToldApart(t *testing.T) {
	l := []int{gray(0), gray(80), gray(160), gray(240)}
	across, down := api.Tex{W: 4, H: 1, L: l}, api.Tex{W: 1, H: 4, L: l}
	for _, kind := range kinds() {
		for n := -700; n <= 1800; n += 13 {
			for _, soft := range []bool{false, true} {
				if a, b := sample(t, across, n, 128, kind, soft), sample(t, down, 128, n, kind, soft); a != b {
					t.Fatalf("across at %d by %d, %t: %v, down: %v", n, kind, soft, a, b)
				}
			}
		}
	}
}

// P14.4

func TestSamplesOfOneColor(t *testing.T) {
	for _, n := range []int{0, 1, 0x01020304, 0xff000080, 0x7f80817e, 1 << 31, white - 1, white} {
		for _, q := range []api.Tex{even(1, 1, n), even(2, 1, n), even(3, 5, n), even(64, 64, n)} {
			for _, kind := range kinds() {
				for _, u := range places(q.W) {
					for _, v := range []int{-wide, -1, 0, 1, 77, 128, 255, q.H*256 - 1, q.H * 256, wide} {
						for _, soft := range []bool{false, true} {
							if got := sample(t, q, u, v, kind, soft); got != color(n) {
								t.Fatalf("Sample(%d by %d of %#x, %d, %d, %d, %t) is %v", q.W, q.H, n, u, v, kind, soft, got)
							}
						}
					}
				}
			}
		}
	}
}

// Within the texture, and beyond it in all directions, as far as there are middles.
func TestSoftSamplesInMiddles(t *testing.T) {
	for _, q := range []api.Tex{texture(1, 1), texture(2, 2), texture(5, 3), texture(64, 2)} {
		for _, kind := range kinds() {
			for _, x := range append(near(q.W), 255, -256) {
				for _, y := range append(near(q.H), 255, -256) {
					if x > 255 || x < -256 {
						continue
					}
					u, v := x*256+128, y*256+128
					hard, soft := sample(t, q, u, v, kind, false), sample(t, q, u, v, kind, true)
					if hard != soft || hard != texelAt(q, x, y, kind) {
						t.Fatalf("Sample(%d by %d, %d, %d, %d) is %v hard, %v soft", q.W, q.H, u, v, kind, hard, soft)
					}
				}
			}
		}
	}
}

// A soft sample beside a middle goes towards what is there, and none goes beyond the texels around it.
func TestSoftSamplesLieBetween(t *testing.T) {
	q := texture(4, 4)
	for u := -300; u <= 1400; u += 37 {
		for v := -300; v <= 1400; v += 41 {
			for _, kind := range kinds() {
				got := sample(t, q, u, v, kind, true)
				lo, hi := api.Color{R: 255, G: 255, B: 255, A: 255}, api.Color{}
				for i := range 4 {
					c := texelAt(q, downwards(u-128)+i%2, downwards(v-128)+i/2, kind)
					lo = api.Color{R: min(lo.R, c.R), G: min(lo.G, c.G), B: min(lo.B, c.B), A: min(lo.A, c.A)}
					hi = api.Color{R: max(hi.R, c.R), G: max(hi.G, c.G), B: max(hi.B, c.B), A: max(hi.A, c.A)}
				}
				if got.R < lo.R || got.G < lo.G || got.B < lo.B || got.A < lo.A || got.R > hi.R || got.G > hi.G || got.B > hi.B || got.A > hi.A {
					t.Fatalf("Sample(%d, %d, %d, true) is %v, not from %v to %v", u, v, kind, got, lo, hi)
				}
			}
		}
	}
}

// R3, R4

// A texture that is handed in is not changed, its spare room neither; the same call tells the same again.
func TestTexturesAreNotChanged(t *testing.T) {
	whole := append(texture(3, 2).L, -7, 1<<40, 99)
	kept := slices.Clone(whole)
	q := api.Tex{W: 3, H: 2, L: whole[:6]}
	for range 2 {
		if e := Check(q); e != api.OK {
			t.Errorf("Check is %d", e)
		}
		if c, e := At(q, -1, 2, 1); c != color(kept[2]) || e != api.OK {
			t.Errorf("At is %v, %d", c, e)
		}
		for _, soft := range []bool{false, true} {
			if got := sample(t, q, 384, 128, 2, soft); got != color(kept[1]) {
				t.Errorf("Sample(384, 128, 2, %t) is %v", soft, got)
			}
		}
	}
	if !slices.Equal(whole, kept) {
		t.Errorf("the numbers became %v", whole)
	}
	// What was done with a texture is not kept: another one at the same place tells its own.
	whole[1] = 0x01020304
	if got := sample(t, q, 384, 128, 2, true); got != color(0x01020304) {
		t.Errorf("Sample tells what is no more: %v", got)
	}
}
