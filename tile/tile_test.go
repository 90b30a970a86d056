package tile

import (
	"math"
	"slices"
	"testing"

	"tempera/api"
	"tempera/rect"
)

const most, least = math.MaxInt, math.MinInt

// of is a rectangle, by its numbers.
func of(x0, y0, x1, y1 int) api.Rect {
	return api.Rect{X0: x0, Y0: y0, X1: x1, Y1: y1}
}

// sides are sides at which tiles are whole, are cut off, or there is just one.
func sides() []int {
	return []int{1, 2, 15, 16, 17, 20, 31, 32, 33, 40, 48, 255, 256}
}

// wrongSides are numbers that are not from 1 to 256, some of which would be if their higher bits, or their sign, were lost.
func wrongSides() []int {
	return []int{
		0, 257, -1, -2, -15, -16, -17, -256, -257, 258, 272, 512, 1 << 16, 1<<16 + 1, -1 << 16, 1<<31 + 1, 1 << 32, 1<<32 + 16, -1 << 32,
		-1<<32 + 256, 1 << 62, least, least + 1, least + 16, most - 15, most - 14, most - 1, most,
	}
}

// wrongPictures are pictures with a side, or both, that may not be.
func wrongPictures() [][2]int {
	var l [][2]int
	for _, n := range wrongSides() {
		for _, side := range []int{1, 16, 17, 256} {
			l = append(l, [2]int{n, side}, [2]int{side, n})
		}
		for _, other := range wrongSides() {
			l = append(l, [2]int{n, other})
		}
	}
	return l
}

// laid is a picture's tiles, laid by the chapter's words: squares from the first pixel on, row by row, each from the left on, cut off at the right and the lower edge.
func laid(w, h int) []api.Rect {
	var l []api.Rect
	for y := 0; y < h; y += 16 {
		for x := 0; x < w; x += 16 {
			l = append(l, of(x, y, min(x+16, w), min(y+16, h)))
		}
	}
	return l
}

// covered is the tiles that have a pixel of a rectangle, by asking each tile for each of its pixels.
func covered(w, h int, r api.Rect) []int {
	var l []int
	for n, box := range laid(w, h) {
		for p := range rect.Pixels(box) {
			if rect.Has(r, p.X, p.Y) {
				l = append(l, n)
				break
			}
		}
	}
	return l
}

// R2, of all calls

// It stops at the first fault: were such a side taken, what comes behind it might never end.
func TestWrongSides(t *testing.T) {
	// Pixels, tiles and rectangles that there might be, and such that there are not: the side's error is the first one.
	numbers := []int{0, 1, -1, 16, 256, 65536, least, most}
	for _, p := range wrongPictures() {
		w, h := p[0], p[1]
		if a, b, e := Count(w, h); a != 0 || b != 0 || e != api.ErrRange {
			t.Fatalf("Count(%d, %d) is %d, %d, %d", w, h, a, b, e)
		}
		for _, n := range numbers {
			if got, e := At(w, h, n, 0); got != 0 || e != api.ErrRange {
				t.Fatalf("At(%d, %d, %d, 0) is %d, %d", w, h, n, got, e)
			}
			if got, e := At(w, h, 0, n); got != 0 || e != api.ErrRange {
				t.Fatalf("At(%d, %d, 0, %d) is %d, %d", w, h, n, got, e)
			}
			if got, e := Box(w, h, n); got != (api.Rect{}) || e != api.ErrRange {
				t.Fatalf("Box(%d, %d, %d) is %v, %d", w, h, n, got, e)
			}
		}
		for _, r := range []api.Rect{{}, of(0, 0, 1, 1), of(0, 0, w, h), of(3, 3, 2, 2), of(least, least, most, most), of(most, most, least, least)} {
			if l, e := Cover(w, h, r); len(l) != 0 || e != api.ErrRange {
				t.Fatalf("Cover(%d, %d, %v) is %v, %d", w, h, r, l, e)
			}
		}
	}
}

// Just outside of what may be, beside sides that may be: each call by itself.
func TestSidesAtTheirEnds(t *testing.T) {
	for _, c := range []struct {
		w, h int
		want api.Errno
	}{
		{1, 1, api.OK}, {256, 256, api.OK}, {1, 256, api.OK}, {256, 1, api.OK},
		{0, 1, api.ErrRange}, {1, 0, api.ErrRange}, {257, 256, api.ErrRange}, {256, 257, api.ErrRange},
		{-1, 1, api.ErrRange}, {1, -1, api.ErrRange}, {0, 0, api.ErrRange}, {257, 257, api.ErrRange}, {-1, -1, api.ErrRange},
		{0, 257, api.ErrRange}, {257, 0, api.ErrRange},
	} {
		_, _, count := Count(c.w, c.h)
		_, at := At(c.w, c.h, 0, 0)
		_, box := Box(c.w, c.h, 0)
		_, cover := Cover(c.w, c.h, of(0, 0, 1, 1))
		if count != c.want || at != c.want || box != c.want || cover != c.want {
			t.Errorf("%d by %d: %d, %d, %d, %d, want %d", c.w, c.h, count, at, box, cover, c.want)
		}
	}
}

// P11.1

func TestCountTold(t *testing.T) {
	for _, c := range []struct{ w, h, across, down int }{
		// The chapter's example.
		{40, 20, 3, 2},
		{1, 1, 1, 1}, {256, 256, 16, 16}, {1, 256, 1, 16}, {256, 1, 16, 1},
		{15, 16, 1, 1}, {16, 15, 1, 1}, {16, 17, 1, 2}, {17, 16, 2, 1}, {15, 17, 1, 2}, {17, 15, 2, 1},
		{2, 33, 1, 3}, {32, 31, 2, 2}, {241, 240, 16, 15}, {255, 239, 16, 15},
	} {
		if a, b, e := Count(c.w, c.h); a != c.across || b != c.down || e != api.OK {
			t.Errorf("Count(%d, %d) is %d, %d, %d, want %d, %d", c.w, c.h, a, b, e, c.across, c.down)
		}
	}
}

// Of all pictures: as many as begin at each 16th pixel.
func TestCountOfAllSides(t *testing.T) {
	var want [257]int
	for n := 1; n <= 256; n++ {
		want[n] = want[n-1]
		if n%16 == 1 {
			want[n]++
		}
	}
	for w := 1; w <= 256; w++ {
		for h := 1; h <= 256; h++ {
			if a, b, e := Count(w, h); a != want[w] || b != want[h] || e != api.OK {
				t.Errorf("Count(%d, %d) is %d, %d, %d, want %d, %d", w, h, a, b, e, want[w], want[h])
			}
		}
	}
}

// P11.2

func TestAtTold(t *testing.T) {
	for _, c := range []struct{ w, h, x, y, want int }{
		// The chapter's example.
		{40, 20, 33, 17, 5},
		// The first and the last pixel.
		{1, 1, 0, 0, 0}, {40, 20, 0, 0, 0}, {40, 20, 39, 19, 5}, {256, 256, 0, 0, 0}, {256, 256, 255, 255, 255},
		{1, 256, 0, 255, 15}, {256, 1, 255, 0, 15}, {16, 16, 15, 15, 0}, {17, 17, 16, 16, 3},
		// On both sides of an edge between two tiles, and around a place where four of them meet.
		{40, 20, 15, 3, 0}, {40, 20, 16, 3, 1}, {40, 20, 31, 3, 1}, {40, 20, 32, 3, 2}, {40, 20, 3, 15, 0}, {40, 20, 3, 16, 3},
		{48, 48, 31, 31, 4}, {48, 48, 32, 31, 5}, {48, 48, 31, 32, 7}, {48, 48, 32, 32, 8},
		{256, 256, 239, 240, 254}, {256, 256, 240, 239, 239}, {256, 256, 239, 239, 238},
		// The other way about, the numbers would be others.
		{20, 40, 17, 33, 5}, {20, 40, 3, 33, 4}, {40, 20, 33, 3, 2}, {17, 256, 0, 16, 2}, {256, 17, 16, 0, 1}, {256, 17, 0, 16, 16},
	} {
		if got, e := At(c.w, c.h, c.x, c.y); got != c.want || e != api.OK {
			t.Errorf("At(%d, %d, %d, %d) is %d, %d, want %d", c.w, c.h, c.x, c.y, got, e, c.want)
		}
	}
}

func TestAtWithoutSuchAPixel(t *testing.T) {
	for _, w := range sides() {
		for _, h := range sides() {
			for _, p := range [][2]int{
				{-1, 0}, {0, -1}, {-1, -1}, {w, 0}, {0, h}, {w, h}, {w, h - 1}, {w - 1, h}, {-1, h - 1}, {w - 1, -1}, {-1, h}, {w, -1},
				{-16, 0}, {0, -16}, {-w, 0}, {0, -h}, {w + 15, 0}, {0, h + 15}, {256, 0}, {0, 256}, {256, 256},
				{1 << 32, 0}, {0, 1 << 32}, {-1 << 32, 0}, {0, -1 << 32}, {-1 << 31, 0}, {0, -1 << 31},
				{least, 0}, {0, least}, {most, 0}, {0, most}, {least, least}, {most, most}, {least, most}, {most, least},
			} {
				if got, e := At(w, h, p[0], p[1]); got != 0 || e != api.ErrArg {
					t.Errorf("At(%d, %d, %d, %d) is %d, %d", w, h, p[0], p[1], got, e)
				}
			}
		}
	}
}

func TestBoxTold(t *testing.T) {
	for _, c := range []struct {
		w, h, n int
		want    api.Rect
	}{
		// The chapter's example: 8 by 4 pixels.
		{40, 20, 5, of(32, 16, 40, 20)},
		// The first tile, and the last one.
		{40, 20, 0, of(0, 0, 16, 16)}, {256, 256, 0, of(0, 0, 16, 16)}, {256, 256, 255, of(240, 240, 256, 256)},
		{1, 1, 0, of(0, 0, 1, 1)}, {16, 16, 0, of(0, 0, 16, 16)}, {15, 15, 0, of(0, 0, 15, 15)},
		{256, 1, 15, of(240, 0, 256, 1)}, {1, 256, 15, of(0, 240, 1, 256)},
		// Cut off at the right edge, at the lower edge, at both.
		{40, 20, 2, of(32, 0, 40, 16)}, {40, 20, 3, of(0, 16, 16, 20)}, {40, 20, 4, of(16, 16, 32, 20)}, {17, 17, 1, of(16, 0, 17, 16)},
		{17, 17, 2, of(0, 16, 16, 17)}, {17, 17, 3, of(16, 16, 17, 17)}, {255, 255, 255, of(240, 240, 255, 255)},
		{5, 7, 0, of(0, 0, 5, 7)}, {5, 40, 1, of(0, 16, 5, 32)}, {40, 5, 1, of(16, 0, 32, 5)},
		// In the middle; the end of a row, and the next one's beginning; the other way about.
		{48, 48, 4, of(16, 16, 32, 32)}, {48, 48, 2, of(32, 0, 48, 16)}, {48, 48, 3, of(0, 16, 16, 32)},
		{20, 40, 2, of(0, 16, 16, 32)}, {20, 40, 5, of(16, 32, 20, 40)}, {20, 40, 4, of(0, 32, 16, 40)},
	} {
		if got, e := Box(c.w, c.h, c.n); got != c.want || e != api.OK {
			t.Errorf("Box(%d, %d, %d) is %v, %d, want %v", c.w, c.h, c.n, got, e, c.want)
		}
	}
}

// Of all pictures with some sides, all tiles, and the numbers just ahead of the first and behind the last.
func TestBoxOfAllTiles(t *testing.T) {
	for _, w := range sides() {
		for _, h := range sides() {
			boxes := laid(w, h)
			for n, want := range boxes {
				if got, e := Box(w, h, n); got != want || e != api.OK {
					t.Errorf("Box(%d, %d, %d) is %v, %d, want %v", w, h, n, got, e, want)
				}
			}
			for _, n := range []int{-1, len(boxes), -2, len(boxes) + 1, -len(boxes), 256, 65536, 1 << 32, -1 << 32, -1 << 31, least, least + 1, most - 1, most} {
				if got, e := Box(w, h, n); got != (api.Rect{}) || e != api.ErrArg {
					t.Errorf("Box(%d, %d, %d) is %v, %d, and there are %d", w, h, n, got, e, len(boxes))
				}
			}
		}
	}
}

// P11.3

// It stops at the first fault, as the next one does: were a rectangle not cut off at the picture, its last ones would have tiles without end.
func TestCoverTold(t *testing.T) {
	for _, c := range []struct {
		w, h int
		r    api.Rect
		want []int
	}{
		// One pixel, on each side of an edge between two tiles; around the place where four of them meet.
		{40, 20, of(33, 17, 34, 18), []int{5}},
		{48, 48, of(15, 15, 16, 16), []int{0}}, {48, 48, of(16, 15, 17, 16), []int{1}}, {48, 48, of(15, 16, 16, 17), []int{3}},
		{48, 48, of(16, 16, 17, 17), []int{4}}, {48, 48, of(15, 15, 17, 17), []int{0, 1, 3, 4}}, {1, 1, of(0, 0, 1, 1), []int{0}},
		{48, 48, of(47, 47, 48, 48), []int{8}}, {256, 256, of(255, 255, 256, 256), []int{255}},
		// The whole picture; one tile; it ends just at an edge between two tiles, or one pixel behind it.
		{40, 20, of(0, 0, 40, 20), []int{0, 1, 2, 3, 4, 5}},
		{48, 48, of(16, 16, 32, 32), []int{4}}, {48, 48, of(16, 16, 33, 32), []int{4, 5}}, {48, 48, of(16, 16, 32, 33), []int{4, 7}},
		{48, 48, of(15, 16, 32, 32), []int{3, 4}}, {48, 48, of(16, 15, 32, 32), []int{1, 4}},
		{48, 48, of(0, 0, 16, 16), []int{0}}, {48, 48, of(0, 0, 32, 16), []int{0, 1}}, {48, 48, of(0, 0, 16, 32), []int{0, 3}},
		// Beyond the picture on each side, and on all of them.
		{40, 20, of(-9, 3, 5, 4), []int{0}}, {40, 20, of(3, -9, 4, 5), []int{0}}, {40, 20, of(35, 3, 99, 4), []int{2}}, {40, 20, of(3, 18, 4, 99), []int{3}},
		{40, 20, of(-1, -1, 41, 21), []int{0, 1, 2, 3, 4, 5}}, {40, 20, of(20, -300, 36, 300), []int{1, 2, 4, 5}}, {40, 20, of(-300, 17, 300, 18), []int{3, 4, 5}},
		{40, 20, of(39, 19, 48, 32), []int{5}}, {40, 20, of(-16, -16, 1, 1), []int{0}},
		// The int's own least and greatest number.
		{40, 20, of(least, least, most, most), []int{0, 1, 2, 3, 4, 5}}, {40, 20, of(least, least, 1, 1), []int{0}}, {40, 20, of(39, 19, most, most), []int{5}},
		{40, 20, of(least, 16, 17, most), []int{3, 4}}, {40, 20, of(31, least, most, 16), []int{1, 2}},
	} {
		if l, e := Cover(c.w, c.h, c.r); !slices.Equal(l, c.want) || e != api.OK {
			t.Fatalf("Cover(%d, %d, %v) is %v, %d, want %v", c.w, c.h, c.r, l, e, c.want)
		}
	}
}

// Beside the picture, though in a tile's square that is cut off; far away; empty ones, some of which would have pixels if they were asked by their width and their height.
func TestCoverOfNone(t *testing.T) {
	for _, w := range sides() {
		for _, h := range sides() {
			for _, r := range []api.Rect{
				of(w, 0, w+1, h), of(0, h, w, h+1), of(-1, 0, 0, h), of(0, -1, w, 0), of(w, h, w+9, h+9), of(-9, -9, 0, 0),
				of(w, 0, 300, 300), of(0, h, 300, 300), of(-300, 0, 0, 300), of(0, -300, 300, 0), of(400, 0, 500, h), of(0, 400, w, 500),
				of(least, 0, 0, h), of(0, least, w, 0), of(w, 0, most, h), of(0, h, w, most), of(least, least, 0, 0), of(w, h, most, most),
				of(most-1, 0, most, h), of(0, most-1, w, most), of(least, 0, least+1, h), of(0, least, w, least+1),
				{}, of(0, 0, 0, h), of(0, 0, w, 0), of(1, 1, 1, 1), of(w, 0, 0, h), of(0, h, w, 0), of(w, h, 0, 0), of(5, 0, 4, h), of(0, 5, w, 4),
				of(16, 0, 15, h), of(0, 16, w, 15), of(33, 33, 15, 15), of(w+1, 0, -1, h), of(0, h+1, w, -1), of(40, 20, -40, -20),
				of(most, 0, least, h), of(0, most, w, least), of(most, most, least, least), of(least, least, least, most), of(least, least, most, least),
				of(most, least, most, most), of(least, most, most, most), of(0, 0, least, most), of(0, 0, most, least), of(1, 0, least, h), of(0, 1, w, least),
			} {
				if l, e := Cover(w, h, r); len(l) != 0 || e != api.OK {
					t.Fatalf("Cover(%d, %d, %v) is %v, %d", w, h, r, l, e)
				}
			}
		}
	}
}

// Held against the pixels themselves: all rectangles of some numbers, the empty ones too.
func TestCoverByPixels(t *testing.T) {
	numbers := []int{-17, -16, -1, 0, 1, 15, 16, 17, 18, 31, 32, 33, 40}
	k := len(numbers)
	for _, p := range [][2]int{{1, 1}, {16, 16}, {17, 33}, {40, 20}, {15, 18}, {32, 1}} {
		for i := range k * k * k * k {
			r := of(numbers[i%k], numbers[i/k%k], numbers[i/k/k%k], numbers[i/k/k/k])
			want := covered(p[0], p[1], r)
			if l, e := Cover(p[0], p[1], r); !slices.Equal(l, want) || e != api.OK {
				t.Fatalf("Cover(%d, %d, %v) is %v, %d, want %v", p[0], p[1], r, l, e, want)
			}
		}
	}
}

// The whole picture is covered by all tiles, a tile's box by the tile alone, a pixel by the tile that At tells.
func TestCoverAgreesWithBoxAndAt(t *testing.T) {
	for _, w := range sides() {
		for _, h := range sides() {
			across, down, _ := Count(w, h)
			l, e := Cover(w, h, of(0, 0, w, h))
			if len(l) != across*down || e != api.OK {
				t.Errorf("%d by %d has %d tiles, and is covered by %v, %d", w, h, across*down, l, e)
			}
			for n, got := range l {
				box, _ := Box(w, h, n)
				one, _ := Cover(w, h, box)
				if got != n || !slices.Equal(one, []int{n}) {
					t.Errorf("%d by %d: tile %d is told as %d, and its box %v is covered by %v", w, h, n, got, box, one)
				}
				first, _ := At(w, h, box.X0, box.Y0)
				last, _ := At(w, h, box.X1-1, box.Y1-1)
				if first != n || last != n {
					t.Errorf("%d by %d: the ends of tile %d's box %v are in %d and %d", w, h, n, box, first, last)
				}
			}
		}
	}
}

// R3: a list that was answered is its asker's own.
func TestCoverIsNewMemory(t *testing.T) {
	want := []int{0, 1, 2, 3, 4, 5}
	a, _ := Cover(40, 20, of(0, 0, 40, 20))
	b, _ := Cover(40, 20, of(0, 0, 40, 20))
	if !slices.Equal(a, want) || !slices.Equal(b, want) {
		t.Fatalf("%v, %v", a, b)
	}
	clear(a)
	c, _ := Cover(40, 20, of(0, 0, 40, 20))
	if !slices.Equal(b, want) || !slices.Equal(c, want) {
		t.Errorf("behind a change of another answer: %v, %v", b, c)
	}
}

// P11.4

// Each pixel is in the box of just one tile, the one that At tells; no box has a pixel beside the picture.
func TestEachPixelOnce(t *testing.T) {
	for _, w := range sides() {
		for _, h := range sides() {
			across, down, _ := Count(w, h)
			owners := make([]int, w*h)
			for n := range across * down {
				box, e := Box(w, h, n)
				if rect.Empty(box) || e != api.OK {
					t.Errorf("%d by %d: tile %d is %v, %d", w, h, n, box, e)
				}
				for p := range rect.Pixels(box) {
					if !rect.Has(of(0, 0, w, h), p.X, p.Y) {
						t.Fatalf("%d by %d: tile %d has %v", w, h, n, p)
					}
					owners[p.Y*w+p.X]++
					if at, e := At(w, h, p.X, p.Y); at != n || e != api.OK {
						t.Fatalf("%d by %d: tile %d has %v, which is told to be in %d, %d", w, h, n, p, at, e)
					}
				}
			}
			for i, times := range owners {
				if times != 1 {
					t.Fatalf("%d by %d: the pixel %d, %d is in %d tiles", w, h, i%w, i/w, times)
				}
			}
		}
	}
}
