package frag

import (
	"math"
	"slices"
	"testing"

	"tempera/api"
	"tempera/state"
	"tempera/texel"
	"tempera/tint"
	"tempera/tri"
)

const most, least = math.MaxInt, math.MinInt

const (
	// light is the greatest channel.
	light = 255
	// deep is the greatest depth.
	deep = 65535
	// full is the greatest stencil.
	full = 255
	// far is the greatest amount of a texture place's number.
	far = 1 << 16
	// over is the greatest amount of a number that goes over a triangle.
	over = 1 << 20
	// span is the greatest amount of a scissor's place, and its greatest side.
	span = 4096
)

// numbers is how many numbers a pixel has; the last one, its stencil, a fragment does not have.
const numbers = 6

// number is one of a pixel's numbers: its channels, its depth, its stencil.
func number(p *api.Px, i int) *int {
	return []*int{&p.C.R, &p.C.G, &p.C.B, &p.C.A, &p.Z, &p.S}[i]
}

// top is the greatest one that a pixel's number may be.
func top(i int) int {
	return [numbers]int{light, light, light, light, deep, full}[i]
}

// px is a pixel by its numbers.
func px(r, g, b, a, z, s int) api.Px {
	return api.Px{C: api.Color{R: r, G: g, B: b, A: a}, Z: z, S: s}
}

// fragment is a fragment by its numbers.
func fragment(r, g, b, a, z int) api.Frag {
	return api.Frag{C: api.Color{R: r, G: g, B: b, A: a}, Z: z}
}

// with is a pixel, one of whose numbers is another one.
func with(p api.Px, i, n int) api.Px {
	*number(&p, i) = n
	return p
}

// ofPx is the fragment that has a pixel's colour and depth.
func ofPx(p api.Px) api.Frag {
	return api.Frag{C: p.C, Z: p.Z}
}

// beyond are numbers that are not from 0 to hi, some of which would be if their higher bits, or their sign, were lost.
func beyond(hi int) []int {
	return []int{
		-1, hi + 1, -2, hi + 2, -hi, -hi - 1, 2*hi + 1, 2*hi + 2, 1 << 16, 1 << 17, 1 << 32, 1<<32 + 1, 1<<32 + hi, -1 << 32, hi - 1<<32, 1 << 62, 1<<62 + hi, -1 << 62,
		least, least + 1, least + hi, most - hi, most - 1, most,
	}
}

// mayBe tells whether a pixel is right, number by number.
func mayBe(p api.Px) bool {
	for i := range numbers {
		if n := *number(&p, i); n < 0 || n > top(i) {
			return false
		}
	}
	return true
}

// basics are pixels that are right: all at the least, all at the greatest, and ordinary ones, no two numbers of which are the same.
func basics() []api.Px {
	return []api.Px{{}, px(light, light, light, light, deep, full), px(1, 2, 3, 4, 5, 6), px(200, 100, 50, 128, 30000, 77)}
}

// rights are pixels that are right, each of their numbers at the ends and beside them too.
func rights() []api.Px {
	var l []api.Px
	for _, p := range basics() {
		for i := range numbers {
			for _, n := range []int{0, 1, top(i) / 2, top(i) - 1, top(i)} {
				l = append(l, with(p, i, n))
			}
		}
	}
	return l
}

// wrongs are pixels that are not right: in one of their numbers, in two, in all.
func wrongs() []api.Px {
	l := []api.Px{px(-1, -1, -1, -1, -1, -1), px(least, most, least, most, least, most), px(256, 256, 256, 256, 65536, 256), px(1<<32, 1<<32, 1<<32, 1<<32, 1<<32, 1<<32)}
	for _, p := range basics() {
		for i := range numbers {
			for j, n := range beyond(top(i)) {
				l = append(l, with(p, i, n), with(with(p, i, n), (i+1+j%5)%numbers, -n|least))
			}
		}
	}
	return l
}

// plain is a state by which a fragment stands, in a little scissor.
func plain() api.State {
	return api.State{
		Sciss: api.Rect{X1: 8, Y1: 5},
		DFn:   7,
		DPut:  true,
		St:    api.Sten{Fn: 7, Read: full, Write: full},
		Bl:    api.Blend{Src: 1, Mask: 15},
	}
}

// ways is a state whose three ways can be told apart: stencils of 9 pass, depths that lie before do; behind, a stencil is 255 less it, one more, or 0.
func ways() api.State {
	s := plain()
	s.St = api.Sten{Fn: 2, Ref: 9, Read: full, Write: full, Fail: 5, ZFail: 3, Pass: 1}
	s.DFn = 1
	return s
}

// shut is a state by which nothing changes.
func shut() api.State {
	return api.State{Bl: api.Blend{Src: 9, Dst: 9, Eq: 4}, Cull: 2, Tex: 64, Wrap: 2, Soft: true}
}

// putIs asks what Put tells inside of a scissor.
func putIs(t *testing.T, p api.Px, f api.Frag, s api.State, want api.Px) {
	t.Helper()
	putAt(t, p, f, s, s.Sciss.X0, s.Sciss.Y0, want, api.OK)
}

// putAt asks what Put tells.
func putAt(t *testing.T, p api.Px, f api.Frag, s api.State, x, y int, want api.Px, e api.Errno) {
	t.Helper()
	if got, code := Put(p, f, s, x, y); got != want || code != e {
		t.Errorf("Put(%+v, %+v, %+v, %d, %d) = %+v, %d; want %+v, %d", p, f, s, x, y, got, code, want, e)
	}
}

// clearIs asks what Clear tells.
func clearIs(t *testing.T, p api.Px, what int, to, want api.Px, e api.Errno) {
	t.Helper()
	if got, code := Clear(p, what, to); got != want || code != e {
		t.Errorf("Clear(%+v, %d, %+v) = %+v, %d; want %+v, %d", p, what, to, got, code, want, e)
	}
}

// dice makes a function that tells numbers from 0 to ahead of n, all over, and the same ones each time.
func dice(seed uint64) func(n int) int {
	return func(n int) int {
		seed = seed*6364136223846793005 + 1442695040888963407
		return int(seed>>33) % n
	}
}

// P19.1: which pixels are right.

func TestRight(t *testing.T) {
	for _, p := range rights() {
		if !Right(p) {
			t.Errorf("Right(%+v) = false", p)
		}
	}
}

func TestRightOfEachNumber(t *testing.T) {
	for i := range numbers {
		for n := -700; n <= 70000; n++ {
			p := with(px(9, 8, 7, 6, 5, 4), i, n)
			if got, want := Right(p), n >= 0 && n <= top(i); got != want {
				t.Fatalf("Right(%+v) = %t; want %t", p, got, want)
			}
		}
	}
}

func TestRightWrong(t *testing.T) {
	for _, p := range wrongs() {
		if Right(p) {
			t.Errorf("Right(%+v) = true", p)
		}
	}
}

// TestRightOfOnesOwnBound holds that a number is asked by its own bound: what a depth may be, a stencil and a channel may not.
func TestRightOfOnesOwnBound(t *testing.T) {
	for i := range numbers {
		if got, want := Right(with(api.Px{}, i, deep)), i == 4; got != want {
			t.Errorf("with %d as number %d, Right = %t; want %t", deep, i, got, want)
		}
	}
}

// P19.2: a fragment is put.

// The chapter's example: by the test 1.
func TestPutExample(t *testing.T) {
	s := plain()
	s.DFn = 1
	f := fragment(10, 20, 30, 40, 5)
	putIs(t, px(1, 2, 3, 4, 9, 0), f, s, px(10, 20, 30, 40, 5, 0))
	putIs(t, px(1, 2, 3, 4, 5, 0), f, s, px(1, 2, 3, 4, 5, 0))
}

// By the state at the beginning, what is new stands, and the stencil is kept.
func TestPutAtTheBeginning(t *testing.T) {
	s, _ := state.Begin(8, 5)
	for _, p := range rights() {
		for _, q := range rights() {
			putIs(t, p, ofPx(q), s, with(q, 5, p.S))
		}
	}
}

// Each of the three ways, by the state that tells them apart.
func TestPutThreeWays(t *testing.T) {
	s := ways()
	for _, c := range []struct {
		name string
		s, z int
		want api.Px
	}{
		{"the stencil fails, the depth would pass", 8, 99, px(1, 2, 3, 4, 100, 247)},
		{"the stencil fails, and the depth would", 8, 100, px(1, 2, 3, 4, 100, 247)},
		{"the stencil fails, as 0", 0, 0, px(1, 2, 3, 4, 100, 255)},
		{"the stencil fails, as 255", 255, deep, px(1, 2, 3, 4, 100, 0)},
		{"the depth fails at it", 9, 100, px(1, 2, 3, 4, 100, 10)},
		{"the depth fails behind it", 9, 101, px(1, 2, 3, 4, 100, 10)},
		{"the depth fails at the end", 9, deep, px(1, 2, 3, 4, 100, 10)},
		{"both pass", 9, 99, px(50, 60, 70, 80, 99, 0)},
		{"both pass, at the beginning", 9, 0, px(50, 60, 70, 80, 0, 0)},
	} {
		p, f := px(1, 2, 3, 4, 100, c.s), fragment(50, 60, 70, 80, c.z)
		if got, e := Put(p, f, s, 0, 0); got != c.want || e != api.OK {
			t.Errorf("%s: %+v, %d; want %+v", c.name, got, e, c.want)
		}
	}
}

// Each deed behind each way, with a Write of all bits, of none, of some.
func TestPutStencils(t *testing.T) {
	made := [8]int{200, 0, 15, 201, 199, 55, 201, 199}
	for way := range 3 {
		for kind := range 8 {
			for _, write := range []int{full, 0, 0xf0, 0x0f, 1} {
				s := plain()
				// The other two ways have another deed: what they would say is told apart.
				other := (kind + 1) % 8
				deeds := [3]int{other, other, other}
				deeds[way] = kind
				s.St = api.Sten{Fn: 7, Ref: 15, Read: full, Write: write, Fail: deeds[0], ZFail: deeds[1], Pass: deeds[2]}
				want := px(50, 60, 70, 80, 7, 200)
				if way == 0 {
					s.St.Fn = 0
				}
				if way == 1 {
					s.DFn = 0
				}
				if way < 2 {
					want = px(1, 2, 3, 4, 100, 200)
				}
				want.S = 200&^write | made[kind]&write
				putIs(t, px(1, 2, 3, 4, 100, 200), fragment(50, 60, 70, 80, 7), s, want)
			}
		}
	}
}

// The stencil's deeds at its ends: 0 and 255.
func TestPutStencilsAtTheEnds(t *testing.T) {
	for kind, want := range [8][2]int{{0, full}, {0, 0}, {15, 15}, {1, full}, {0, full - 1}, {full, 0}, {1, 0}, {full, full - 1}} {
		for i, old := range []int{0, full} {
			for way := range 3 {
				s := plain()
				s.St = api.Sten{Fn: 7, Ref: 15, Read: full, Write: full, Fail: kind, ZFail: kind, Pass: kind}
				if way == 0 {
					s.St.Fn = 0
				}
				if way == 1 {
					s.DFn = 0
				}
				p := px(1, 2, 3, 4, 5, old)
				putIs(t, p, ofPx(p), s, with(p, 5, want[i]))
			}
		}
	}
}

// A Write of 0 keeps each stencil, and one of 255 lets each be written, whichever bits it has.
func TestPutWrites(t *testing.T) {
	for old := range full + 1 {
		p := px(1, 2, 3, 4, 5, old)
		s := plain()
		s.St = api.Sten{Fn: 7, Ref: 0x5a, Read: full, Write: 0, Fail: 5, ZFail: 5, Pass: 5}
		putIs(t, p, ofPx(p), s, p)
		s.St.Write = full
		putIs(t, p, ofPx(p), s, with(p, 5, full-old))
		s.St.Write, s.St.Pass = 0x0f, 2
		putIs(t, p, ofPx(p), s, with(p, 5, old&0xf0|0x0a))
	}
}

// The stencil test is the pixel's S against Ref, by the bits that Read has: neither the depth, nor what is written then, has a say.
func TestPutAsksTheStencil(t *testing.T) {
	for kind := range 8 {
		for _, c := range []struct{ ref, read, old, place int }{
			{9, full, 10, 0}, {9, full, 9, 1}, {9, full, 8, 2}, {0x19, 0x0f, 0x2a, 0}, {0x29, 0x0f, 0x19, 1}, {0x29, 0x0f, 0x38, 2}, {1, 0, 2, 1}, {0, full, full, 0}, {full, full, 0, 2},
		} {
			s := plain()
			s.St = api.Sten{Fn: kind, Ref: c.ref, Read: c.read, Write: full, Fail: 5, Pass: 0}
			p, f := px(1, 2, 3, 4, 5, c.old), fragment(50, 60, 70, 80, 90)
			want := with(p, 5, full-c.old)
			if kind>>c.place&1 == 1 {
				want = px(50, 60, 70, 80, 90, c.old)
			}
			putIs(t, p, f, s, want)
		}
	}
}

// Each of the eight tests, with a fragment before, at and behind the pixel's Z; with DPut, and without it.
func TestPutAsksTheDepth(t *testing.T) {
	for kind := range 8 {
		for _, put := range []bool{false, true} {
			for _, z := range []int{1, 2, 100, 255, 256, 30000, deep - 1} {
				for place, depth := range []int{z - 1, z, z + 1} {
					s := plain()
					s.DFn, s.DPut = kind, put
					s.St.ZFail, s.St.Pass = 1, 5
					want := px(1, 2, 3, 4, z, 0)
					if kind>>place&1 == 1 {
						want = px(50, 60, 70, 80, z, full-9)
					}
					if kind>>place&1 == 1 && put {
						want.Z = depth
					}
					putIs(t, px(1, 2, 3, 4, z, 9), fragment(50, 60, 70, 80, depth), s, want)
				}
			}
		}
	}
}

// From one end of depths to the other one.
func TestPutDepthsAtTheEnds(t *testing.T) {
	s := plain()
	near, behind := px(1, 2, 3, 4, 0, 7), px(50, 60, 70, 80, deep, 7)
	for kind, moves := range [8][2]bool{{}, {true, false}, {}, {true, false}, {false, true}, {true, true}, {false, true}, {true, true}} {
		s.DFn = kind
		forth, back := behind, near
		if moves[0] {
			forth = near
		}
		if moves[1] {
			back = behind
		}
		putIs(t, behind, ofPx(near), s, forth)
		putIs(t, near, ofPx(behind), s, back)
	}
}

// Each mask: none, one channel, several, all; what it has not stays, while the depth and the stencil are written.
func TestPutMasks(t *testing.T) {
	s := plain()
	s.St.Pass = 3
	for mask := range 16 {
		s.Bl.Mask = mask
		want := px(1, 2, 3, 4, 90, 10)
		for i := range 4 {
			if mask>>i&1 == 1 {
				*number(&want, i) = 50 + 10*i
			}
		}
		putIs(t, px(1, 2, 3, 4, 100, 9), fragment(50, 60, 70, 80, 90), s, want)
	}
}

// The fragment's colour is the new one, the pixel's the old one.
func TestPutMixes(t *testing.T) {
	p, f := px(255, 100, 0, 255, 9, 1), fragment(200, 40, 255, 128, 5)
	for _, c := range []struct {
		bl   api.Blend
		want api.Color
	}{
		{api.Blend{Src: 1, Dst: 0, Mask: 15}, api.Color{R: 200, G: 40, B: 255, A: 128}},
		{api.Blend{Src: 0, Dst: 1, Mask: 15}, api.Color{R: 255, G: 100, B: 0, A: 255}},
		{api.Blend{Src: 1, Dst: 1, Mask: 15}, api.Color{R: 255, G: 140, B: 255, A: 255}},
		{api.Blend{Src: 6, Dst: 7, Mask: 15}, api.Color{R: 227, G: 70, B: 128, A: 191}},
		{api.Blend{Src: 6, Dst: 7, Mask: 7}, api.Color{R: 227, G: 70, B: 128, A: 255}},
		{api.Blend{Src: 1, Dst: 1, Eq: 1, Mask: 15}, api.Color{B: 255}},
		{api.Blend{Src: 1, Dst: 1, Eq: 2, Mask: 15}, api.Color{R: 55, G: 60, A: 127}},
		{api.Blend{Src: 1, Dst: 1, Eq: 2, Mask: 9}, api.Color{R: 55, G: 100, A: 127}},
		{api.Blend{Eq: 3, Mask: 15}, api.Color{R: 200, G: 40, A: 128}},
		{api.Blend{Eq: 4, Mask: 15}, api.Color{R: 255, G: 100, B: 255, A: 255}},
		{api.Blend{Src: 4, Dst: 0, Mask: 15}, api.Color{R: 200, G: 16, A: 128}},
	} {
		s := plain()
		s.Bl = c.bl
		putIs(t, p, f, s, api.Px{C: c.want, Z: 5, S: 1})
	}
}

// By whichever state may be, behind a test that fails the colour stays, and so does the depth.
func TestPutMixesNothingThatFails(t *testing.T) {
	p, f := px(255, 100, 0, 255, 9, 1), fragment(200, 40, 255, 128, 5)
	for src := range 10 {
		for eq := range 5 {
			for mask := range 16 {
				s := plain()
				s.Bl = api.Blend{Src: src, Dst: 9 - src, Eq: eq, Mask: mask}
				s.St.Fn = 0
				putIs(t, p, f, s, p)
				s.St.Fn, s.DFn = 7, 0
				putIs(t, p, f, s, p)
			}
		}
	}
}

// Just inside of Sciss, and just outside at each of its sides and corners.
func TestPutInSciss(t *testing.T) {
	p, f := px(1, 2, 3, 4, 5, 6), fragment(50, 60, 70, 80, 90)
	changed := px(50, 60, 70, 80, 90, 6)
	for _, r := range []api.Rect{
		{X0: 2, Y0: 1, X1: 5, Y1: 4}, {X1: 1, Y1: 1}, {X0: 7, Y0: 3, X1: 8, Y1: 9}, {X0: -3, Y0: -9, X1: 2, Y1: -7}, {X1: span, Y1: span},
		{X0: -span, Y0: -span, X1: 0, Y1: 0}, {X0: span, Y0: span, X1: 2 * span, Y1: 2 * span}, {X0: -span, Y0: span, X1: 1 - span, Y1: span + 1},
	} {
		s := plain()
		s.Sciss = r
		for _, x := range []int{r.X0 - 1, r.X0, r.X1 - 1, r.X1} {
			for _, y := range []int{r.Y0 - 1, r.Y0, r.Y1 - 1, r.Y1} {
				want := p
				if x >= r.X0 && x < r.X1 && y >= r.Y0 && y < r.Y1 {
					want = changed
				}
				putAt(t, p, f, s, x, y, want, api.OK)
			}
		}
	}
}

// Each pixel around a little one.
func TestPutInScissTold(t *testing.T) {
	s := plain()
	s.Sciss = api.Rect{X0: 1, Y0: 2, X1: 4, Y1: 4}
	for y, row := range []string{"......", "......", ".###..", ".###..", "......"} {
		for x, mark := range row {
			p, want := px(1, 2, 3, 4, 5, 6), px(1, 2, 3, 4, 5, 6)
			if mark == '#' {
				want = px(50, 60, 70, 80, 90, 6)
			}
			putAt(t, p, fragment(50, 60, 70, 80, 90), s, x, y, want, api.OK)
		}
	}
}

// A Sciss without a pixel: nothing changes anywhere.
func TestPutInNoSciss(t *testing.T) {
	for _, r := range []api.Rect{{}, {X1: 9}, {Y1: 9}, {X0: 3, Y0: 3, X1: 3, Y1: 9}, {X0: 3, Y0: 3, X1: 9, Y1: 3}, {X0: -span, Y0: span, X1: -span, Y1: span}} {
		s := ways()
		s.Sciss = r
		for x := -1; x <= 10; x++ {
			for y := -1; y <= 10; y++ {
				putAt(t, px(1, 2, 3, 4, 5, 6), fragment(50, 60, 70, 80, 0), s, x, y, px(1, 2, 3, 4, 5, 6), api.OK)
			}
		}
	}
}

// Numbers of no pixel, some of which would lie inside if their higher bits, or their sign, were lost.
func TestPutFarOutside(t *testing.T) {
	s := ways()
	for _, p := range []api.Px{px(1, 2, 3, 4, 5, 6), px(1, 2, 3, 4, 5, 9)} {
		for _, n := range []int{-1, 8, 1 << 8, 1 << 16, 1 << 32, 1<<32 + 1, -1 << 32, 1 << 62, -1 << 62, least, least + 1, most - 1, most} {
			for _, at := range [][2]int{{n, 0}, {0, n}, {n, n}, {n, 4}, {7, n}, {n, -n}} {
				putAt(t, p, fragment(50, 60, 70, 80, 4), s, at[0], at[1], p, api.OK)
			}
		}
	}
}

// Of a state, neither the matrix, nor the viewport, nor the cull, nor the texture has a say.
func TestPutAsksNoMore(t *testing.T) {
	p, f := px(1, 2, 3, 4, 100, 9), fragment(50, 60, 70, 80, 99)
	for _, put := range []func(*api.State){
		func(s *api.State) { s.M = api.Mat{0: 1 << 24, 15: -1 << 24} },
		func(s *api.State) { s.View = api.Rect{X0: span, Y0: span, X1: span, Y1: span} },
		func(s *api.State) { s.Cull = 1 },
		func(s *api.State) { s.Cull = 2 },
		func(s *api.State) { s.Tex = 64 },
		func(s *api.State) { s.Wrap = 2 },
		func(s *api.State) { s.Soft = true },
	} {
		s := ways()
		put(&s)
		putIs(t, p, f, s, px(50, 60, 70, 80, 99, 0))
		putIs(t, with(p, 5, 8), f, s, px(1, 2, 3, 4, 100, 247))
		putAt(t, p, f, s, 8, 0, p, api.OK)
	}
}

// wrongStates are states that may not be, and state.Check's error of each.
func wrongStates() []struct {
	s    api.State
	want api.Errno
} {
	type wrong = struct {
		s    api.State
		want api.Errno
	}
	var l []wrong
	add := func(want api.Errno, put func(*api.State)) {
		for _, s := range []api.State{plain(), ways(), shut()} {
			put(&s)
			l = append(l, wrong{s, want})
		}
	}
	for _, n := range []int{-1, 8, 256, 1<<32 + 7, least, most} {
		add(api.ErrKind, func(s *api.State) { s.DFn = n })
		add(api.ErrKind, func(s *api.State) { s.St.Fn = n })
		add(api.ErrKind, func(s *api.State) { s.St.Fail = n })
		add(api.ErrKind, func(s *api.State) { s.St.ZFail = n })
		add(api.ErrKind, func(s *api.State) { s.St.Pass = n })
		add(api.ErrKind, func(s *api.State) { s.Cull = n })
		add(api.ErrKind, func(s *api.State) { s.Wrap = n })
		add(api.ErrKind, func(s *api.State) { s.Bl.Eq = n })
	}
	for _, n := range []int{-1, 256, 1 << 32, least, most} {
		add(api.ErrRange, func(s *api.State) { s.St.Ref = n })
		add(api.ErrRange, func(s *api.State) { s.St.Read = n })
		add(api.ErrRange, func(s *api.State) { s.St.Write = n })
		add(api.ErrRange, func(s *api.State) { s.Bl.Mask = n })
		add(api.ErrKind, func(s *api.State) { s.Bl.Src = n })
		add(api.ErrKind, func(s *api.State) { s.Bl.Dst = n })
		add(api.ErrNone, func(s *api.State) { s.Tex = n })
	}
	add(api.ErrNone, func(s *api.State) { s.Tex = 65 })
	for _, n := range []int{1<<24 + 1, -1<<24 - 1, 1 << 32, least, most} {
		add(api.ErrCoord, func(s *api.State) { s.M[5] = n })
		add(api.ErrView, func(s *api.State) { s.View = api.Rect{X1: n} })
		add(api.ErrView, func(s *api.State) { s.Sciss = api.Rect{Y1: n} })
	}
	add(api.ErrView, func(s *api.State) { s.Sciss = api.Rect{X1: span + 1, Y1: 1} })
	add(api.ErrView, func(s *api.State) { s.Sciss = api.Rect{X0: 4, X1: 3, Y1: 9} })
	add(api.ErrView, func(s *api.State) { s.Sciss = api.Rect{X0: least, Y0: least, X1: most, Y1: most} })
	// In the order of the parts.
	add(api.ErrCoord, func(s *api.State) { s.M[0], s.View.X0, s.DFn, s.St.Ref, s.Tex = most, most, 8, 256, 65 })
	add(api.ErrRange, func(s *api.State) { s.St.Write, s.Bl.Eq, s.Wrap = 256, 5, 3 })
	add(api.ErrNone, func(s *api.State) { s.Tex, s.Wrap = 65, 3 })
	return l
}

// TestPutWrongStates holds that a state's error comes first, whatever the pixel, the fragment and the place.
func TestPutWrongStates(t *testing.T) {
	bad := px(-1, 256, least, most, 65536, 256)
	for _, c := range wrongStates() {
		if e := state.Check(c.s); e != c.want {
			t.Errorf("Check(%+v) = %d; want %d", c.s, e, c.want)
		}
		for _, p := range []api.Px{px(1, 2, 3, 4, 5, 6), bad, px(0, 0, 0, 0, -1, 0)} {
			for _, f := range []api.Frag{fragment(50, 60, 70, 80, 90), ofPx(bad), fragment(0, 0, 0, 0, -1)} {
				for _, at := range [][2]int{{0, 0}, {8, 0}, {least, most}} {
					putAt(t, p, f, c.s, at[0], at[1], api.Px{}, c.want)
				}
			}
		}
	}
}

// TestPutWrongPixels holds that a pixel, or a fragment, that is not right is told whatever becomes of it: inside and outside, and where nothing would be read of it.
func TestPutWrongPixels(t *testing.T) {
	good := px(50, 60, 70, 80, 90, 100)
	never := plain()
	never.St.Fn, never.Bl.Mask = 0, 0
	hidden := ways()
	hidden.DFn, hidden.DPut = 0, false
	for _, s := range []api.State{plain(), ways(), shut(), never, hidden} {
		for _, at := range [][2]int{{0, 0}, {8, 0}, {-1, -1}, {most, least}} {
			for _, p := range wrongs() {
				putAt(t, p, ofPx(good), s, at[0], at[1], api.Px{}, api.ErrRange)
				putAt(t, p, ofPx(p), s, at[0], at[1], api.Px{}, api.ErrRange)
				if !mayBe(with(p, 5, 0)) {
					putAt(t, good, ofPx(p), s, at[0], at[1], api.Px{}, api.ErrRange)
				}
			}
		}
	}
}

// A fragment's depth may be at both ends, of each pixel, and no further.
func TestPutOfRightFragments(t *testing.T) {
	s := plain()
	for _, p := range basics() {
		for _, q := range rights() {
			putIs(t, p, ofPx(q), s, with(q, 5, p.S))
		}
		for _, z := range []int{-1, deep + 1} {
			putAt(t, p, fragment(0, 0, 0, 0, z), s, 0, 0, api.Px{}, api.ErrRange)
		}
	}
}

// after is what becomes of a pixel, told part by part: whether both tests pass, by a test's bits; the stencil, bit by bit; the colour, by numbers with a point.
func after(p api.Px, f api.Frag, s api.State) api.Px {
	deed := s.St.Fail
	if meets(s.St.Fn, s.St.Ref&s.St.Read, p.S&s.St.Read) {
		deed = s.St.ZFail
		if meets(s.DFn, f.Z, p.Z) {
			deed = s.St.Pass
			p.C = mixture(s.Bl, f.C, p.C)
			if s.DPut {
				p.Z = f.Z
			}
		}
	}
	made := [8]int{p.S, 0, s.St.Ref, min(p.S+1, full), max(p.S-1, 0), full - p.S, (p.S + 1) % (full + 1), (p.S + full) % (full + 1)}[deed]
	for i := range 8 {
		if s.St.Write>>i&1 == 1 {
			p.S = p.S - p.S>>i&1<<i + made>>i&1<<i
		}
	}
	return p
}

// meets tells whether a test passes.
func meets(kind, a, b int) bool {
	return kind%2 == 1 && a < b || kind/2%2 == 1 && a == b || kind/4 == 1 && a > b
}

// mixture is what a blend makes of colours.
func mixture(b api.Blend, fresh, old api.Color) api.Color {
	n, o := [4]int{fresh.R, fresh.G, fresh.B, fresh.A}, [4]int{old.R, old.G, old.B, old.A}
	for i := range n {
		says := [10]int{0, light, n[i], light - n[i], o[i], light - o[i], fresh.A, light - fresh.A, old.A, light - old.A}
		x, y := float64(n[i]*says[b.Src]), float64(o[i]*says[b.Dst])
		held := func(n float64) int { return int(math.Max(0, math.Min(light, math.Floor((n+127)/light)))) }
		if b.Mask>>i&1 == 1 {
			n[i] = [5]int{held(x + y), held(x - y), held(y - x), min(n[i], o[i]), max(n[i], o[i])}[b.Eq]
		} else {
			n[i] = o[i]
		}
	}
	return api.Color{R: n[0], G: n[1], B: n[2], A: n[3]}
}

// anyState is a state that may be, all over.
func anyState(roll func(int) int) api.State {
	return api.State{
		Sciss: api.Rect{X0: roll(5) - 2, Y0: roll(5) - 2, X1: 3 + roll(5), Y1: 3 + roll(5)},
		DFn:   roll(8),
		DPut:  roll(2) == 1,
		St:    api.Sten{Fn: roll(8), Ref: roll(256), Read: edged(roll, full), Write: edged(roll, full), Fail: roll(8), ZFail: roll(8), Pass: roll(8)},
		Bl:    api.Blend{Src: roll(10), Dst: roll(10), Eq: roll(5), Mask: roll(16)},
		Cull:  roll(3),
		Tex:   roll(65),
		Wrap:  roll(3),
		Soft:  roll(2) == 1,
	}
}

// edged is a number from 0 to hi, which often is one of the ends.
func edged(roll func(int) int, hi int) int {
	switch roll(4) {
	case 0:
		return 0
	case 1:
		return hi
	}
	return roll(hi + 1)
}

// anyPx is a pixel that is right, all over.
func anyPx(roll func(int) int) api.Px {
	var p api.Px
	for i := range numbers {
		*number(&p, i) = edged(roll, top(i))
	}
	return p
}

// Held against what is told part by part, all over.
func TestPutOfMany(t *testing.T) {
	roll := dice(19)
	met := [3]int{}
	for range 60000 {
		s, p, f := anyState(roll), anyPx(roll), ofPx(anyPx(roll))
		if roll(3) == 0 {
			f.Z = min(max(p.Z+roll(3)-1, 0), deep)
		}
		x, y := roll(14)-4, roll(14)-4
		want := p
		if x >= s.Sciss.X0 && x < s.Sciss.X1 && y >= s.Sciss.Y0 && y < s.Sciss.Y1 {
			want = after(p, f, s)
			met[way(s, p, f)]++
		}
		putAt(t, p, f, s, x, y, want, api.OK)
	}
	for i, n := range met {
		if n < 1000 {
			t.Errorf("only %d pixels went the way %d", n, i)
		}
	}
}

// way is which of the three ways a pixel goes.
func way(s api.State, p api.Px, f api.Frag) int {
	if !meets(s.St.Fn, s.St.Ref&s.St.Read, p.S&s.St.Read) {
		return 0
	}
	if !meets(s.DFn, f.Z, p.Z) {
		return 1
	}
	return 2
}

// P19.3: a pixel is cleared.

func TestClearTold(t *testing.T) {
	p, to := px(1, 2, 3, 4, 5, 6), px(50, 60, 70, 80, 90, 100)
	for _, c := range []struct {
		what int
		want api.Px
	}{
		{1, px(50, 60, 70, 80, 5, 6)}, {2, px(1, 2, 3, 4, 90, 6)}, {3, px(50, 60, 70, 80, 90, 6)}, {4, px(1, 2, 3, 4, 5, 100)},
		{5, px(50, 60, 70, 80, 5, 100)}, {6, px(1, 2, 3, 4, 90, 100)}, {7, to},
	} {
		clearIs(t, p, c.what, to, c.want, api.OK)
		// Twice is once.
		clearIs(t, c.want, c.what, to, c.want, api.OK)
	}
}

// Just what its parts say, of all pixels that are right.
func TestClearOfMany(t *testing.T) {
	l := rights()
	for _, p := range l {
		for _, to := range l {
			for what := 1; what <= 7; what++ {
				want := p
				if what%2 == 1 {
					want.C = to.C
				}
				if what/2%2 == 1 {
					want.Z = to.Z
				}
				if what/4 == 1 {
					want.S = to.S
				}
				clearIs(t, p, what, to, want, api.OK)
				clearIs(t, want, what, to, want, api.OK)
				clearIs(t, p, what, p, p, api.OK)
			}
		}
	}
}

// A sum is its parts, one behind the other.
func TestClearPartByPart(t *testing.T) {
	p, to := px(1, 2, 3, 4, 5, 6), px(50, 60, 70, 80, 90, 100)
	for what := 1; what <= 7; what++ {
		got := p
		for i := range 3 {
			if what>>(2-i)&1 == 1 {
				got, _ = Clear(got, 4>>i, to)
			}
		}
		clearIs(t, p, what, to, got, api.OK)
	}
}

// wrongWhats are no sums of what is cleared, some of which would be if their higher bits, or their sign, were lost.
func wrongWhats() []int {
	l := []int{0, 8, -1, -2, -7, -8, 9, 15, 16, 255, 256, least, least + 1, least + 7, most - 7, most - 1, most}
	for what := 1; what <= 7; what++ {
		l = append(l, what+8, what-8, -what, what+1<<8, what+1<<16, what+1<<32, what-1<<32, what+1<<62, what+least)
	}
	return l
}

// TestClearWrongWhats holds that what is cleared is asked first, whatever the pixels.
func TestClearWrongWhats(t *testing.T) {
	good, bad := px(1, 2, 3, 4, 5, 6), px(-1, 256, least, most, 65536, 256)
	for _, what := range wrongWhats() {
		for _, p := range []api.Px{{}, good, bad} {
			for _, to := range []api.Px{{}, good, bad} {
				clearIs(t, p, what, to, api.Px{}, api.ErrKind)
			}
		}
	}
}

// TestClearWrongPixels holds that each pixel is asked whole, also where what is wrong is not read.
func TestClearWrongPixels(t *testing.T) {
	good := px(1, 2, 3, 4, 5, 6)
	for what := 1; what <= 7; what++ {
		for _, bad := range wrongs() {
			clearIs(t, bad, what, good, api.Px{}, api.ErrRange)
			clearIs(t, good, what, bad, api.Px{}, api.ErrRange)
			clearIs(t, bad, what, bad, api.Px{}, api.ErrRange)
			clearIs(t, bad, what, px(-1, 0, 0, 0, 0, 0), api.Px{}, api.ErrRange)
		}
	}
}

// P19.4: what a triangle has, with its texture.

// spot is a spot by its place, its depth, and what goes over the triangle.
func spot(x, y, z int, a ...int) api.Spot {
	s := api.Spot{P: api.Point{X: x, Y: y}, Z: z}
	copy(s.A[:], a)
	return s
}

// set sets up what is not dropped.
func set(t *testing.T, s [3]api.Spot) api.Tri {
	t.Helper()
	q, is, e := tri.Setup(s, api.CullNone)
	if !is || e != api.OK {
		t.Fatalf("Setup(%v) answers %v, and the error %d", s, is, e)
	}
	return q
}

// even is a triangle that has the same everywhere, at 0 0 among others.
func even(t *testing.T, z int, a ...int) api.Tri {
	t.Helper()
	return set(t, [3]api.Spot{spot(0, 0, z, a...), spot(64, 0, z, a...), spot(0, 64, z, a...)})
}

// white is a triangle of which the texture alone tells the colour: at a place.
func white(t *testing.T, u, v int) api.Tri {
	t.Helper()
	return even(t, 7, light, light, light, light, u, v)
}

// dot is the colour of a chart's texel: no two of them have the same.
func dot(x, y int) api.Color {
	return api.Color{R: 10*x + 1, G: 200 - 10*y, B: 7*x + 31*y, A: 250 - x - 3*y}
}

// chart is a texture of w by h dots.
func chart(w, h int) api.Tex {
	img := api.Tex{W: w, H: h}
	for i := range w * h {
		c := dot(i%w, i/w)
		img.L = append(img.L, c.R<<24|c.G<<16|c.B<<8|c.A)
	}
	return img
}

// wrongImages are textures that are not right.
func wrongImages() []api.Tex {
	long := make([]int, 65*65)
	return []api.Tex{
		{}, {W: 1, H: 1}, {L: []int{7}}, {W: 0, H: 1, L: []int{7}}, {W: 1, L: []int{7}}, {W: -1, H: -1, L: []int{7}}, {W: 65, H: 1, L: long[:65]}, {W: 1, H: 65, L: long[:65]}, {W: 65, H: 65, L: long},
		{W: 2, H: 2, L: long[:3]}, {W: 2, H: 2, L: long[:5]}, {W: 2, H: 1, L: []int{7, -1}}, {W: 2, H: 1, L: []int{1 << 32, 7}}, {W: 1, H: 1, L: []int{least}}, {W: 1, H: 1, L: []int{most}},
		{W: least, H: most}, {W: 1 << 32, H: 1 << 32}, {W: 1<<32 + 1, H: 1, L: []int{7}},
	}
}

// bound is a state that names a texture.
func bound(wrap int, soft bool) api.State {
	s := plain()
	s.Tex, s.Wrap, s.Soft = 1, wrap, soft
	return s
}

// ofIs asks what Of tells of a pixel that a triangle has.
func ofIs(t *testing.T, q api.Tri, s api.State, img api.Tex, x, y int, want api.Frag) {
	t.Helper()
	if f, is := Of(q, s, img, x, y); f != want || !is {
		t.Errorf("Of(%+v, %+v, %v, %d, %d) = %+v, %t; want %+v", q, s, img, x, y, f, is, want)
	}
}

// ofNone asks what Of tells of a pixel that a triangle does not have.
func ofNone(t *testing.T, q api.Tri, s api.State, img api.Tex, x, y int) {
	t.Helper()
	if f, is := Of(q, s, img, x, y); f != (api.Frag{}) || is {
		t.Errorf("Of(%+v, %+v, %v, %d, %d) = %+v, %t; want none", q, s, img, x, y, f, is)
	}
}

// Depth and colour go over the triangle, each number of A for itself, cut downwards.
func TestOfTold(t *testing.T) {
	// As wide as high: 8 pixels, from middle to middle.
	q := set(t, [3]api.Spot{spot(8, 8, 0, 80, 0, 255, 8, 5, 5), spot(136, 8, deep, 0, 255, 255, 16, 6, 6), spot(8, 136, 0, 160, 0, 0, 0, 7, 7)})
	for _, c := range []struct {
		x, y int
		want api.Frag
	}{
		{0, 0, fragment(80, 0, 255, 8, 0)}, {1, 0, fragment(70, 31, 255, 9, 8191)}, {4, 0, fragment(40, 127, 255, 12, 32767)}, {7, 0, fragment(10, 223, 255, 15, 57343)},
		{0, 1, fragment(90, 0, 223, 7, 0)}, {0, 7, fragment(150, 0, 31, 1, 0)}, {2, 4, fragment(100, 63, 127, 6, 16383)},
	} {
		ofIs(t, q, plain(), api.Tex{}, c.x, c.y, c.want)
	}
}

// Pixels that it has are marked, from 0 0 on: with a texture that is right, too, there is nothing beside.
func TestOfPixels(t *testing.T) {
	q := set(t, [3]api.Spot{spot(0, 0, 9, 1, 2, 3, 4), spot(64, 0, 9, 1, 2, 3, 4), spot(0, 64, 9, 1, 2, 3, 4)})
	for _, s := range []api.State{plain(), bound(api.WrapClamp, false), bound(api.WrapMirror, true)} {
		for y, row := range []string{"###..", "##...", "#....", ".....", "....."} {
			for x, mark := range row {
				f, is := Of(q, s, api.Tex{W: 1, H: 1, L: []int{0xffffffff}}, x, y)
				if want := mark == '#'; is != want || is && f != fragment(1, 2, 3, 4, 9) || !is && f != (api.Frag{}) {
					t.Errorf("Of %d %d = %+v, %t; want %t", x, y, f, is, want)
				}
			}
		}
	}
}

func TestOfNothing(t *testing.T) {
	q := even(t, 9, 1, 2, 3, 4)
	for _, s := range []api.State{plain(), bound(api.WrapRepeat, true)} {
		for _, n := range []int{-1, -2, 3, 4, 1 << 15, -1<<15 - 1, 1 << 16, 1 << 32, -1 << 32, 1 << 60, 1 << 62, least, least + 1, most - 1, most} {
			for _, at := range [][2]int{{n, 0}, {0, n}, {n, n}, {n, -n}} {
				ofNone(t, q, s, chart(3, 5), at[0], at[1])
			}
		}
		// The zero triangle, which is what Setup tells of one that it drops, has nothing.
		ofNone(t, api.Tri{}, s, chart(3, 5), 0, 0)
	}
}

// Whether a triangle has a pixel, its depth there: both as tri says, all around, with a texture and without one.
func TestOfAgreesWithTri(t *testing.T) {
	roll := dice(194)
	met := 0
	for range 300 {
		q, is, _ := tri.Setup(anySpots(roll, 255), api.CullNone)
		if !is {
			continue
		}
		for i := range 100 {
			x, y := i%10-2, i/10-2
			z, a, has := tri.At(q, x, y)
			want := api.Frag{C: api.Color{R: a[0], G: a[1], B: a[2], A: a[3]}, Z: z}
			if !has {
				ofNone(t, q, bound(0, false), chart(2, 2), x, y)
				continue
			}
			met++
			ofIs(t, q, plain(), chart(2, 2), x, y, want)
			ofIs(t, q, bound(0, true), api.Tex{W: 1, H: 1, L: []int{0xffffffff}}, x, y, want)
		}
	}
	if met < 1000 {
		t.Errorf("only %d pixels were met", met)
	}
}

// anySpots are spots of a triangle, all over, whose A are from 0 to an amount, but for the place.
func anySpots(roll func(int) int, amount int) [3]api.Spot {
	var s [3]api.Spot
	for i := range s {
		s[i] = spot(roll(200)-50, roll(200)-50, edged(roll, deep))
		for j := range 4 {
			s[i].A[j] = roll(amount + 1)
		}
		s[i].A[4], s[i].A[5] = roll(4000)-2000, roll(4000)-2000
	}
	return s
}

// Numbers that are no channels are held; each channel has its own one.
func TestOfHoldsColours(t *testing.T) {
	for _, c := range []struct{ n, want int }{{0, 0}, {1, 1}, {254, 254}, {255, 255}, {256, 255}, {-1, 0}, {-256, 0}, {300, 255}, {over, 255}, {-over, 0}, {1 << 16, 255}, {-1 << 16, 0}} {
		for i := range 4 {
			a := [6]int{10, 20, 30, 40}
			a[i] = c.n
			want := with(px(10, 20, 30, 40, 9, 0), i, c.want)
			ofIs(t, even(t, 9, a[:]...), plain(), api.Tex{}, 0, 0, ofPx(want))
			// Held ahead of what a texture does with it.
			ofIs(t, even(t, 9, a[:]...), bound(0, false), api.Tex{W: 1, H: 1, L: []int{0xffffffff}}, 0, 0, ofPx(want))
		}
	}
}

// A pixel between spots whose numbers are no channels: what is mixed is held, not what is mixed of.
func TestOfHoldsWhatIsMixed(t *testing.T) {
	// The middle of 4 0 lies halfway between both upper spots.
	q := set(t, [3]api.Spot{spot(8, 8, 0, 1000, -1000, -100, 600, 0, 0), spot(136, 8, 0, -800, 1200, -300, 500, 0, 0), spot(8, 136, 0)})
	ofIs(t, q, plain(), api.Tex{}, 4, 0, fragment(100, 100, 0, 255, 0))
	ofIs(t, q, plain(), api.Tex{}, 0, 0, fragment(255, 0, 0, 255, 0))
}

func TestOfDepths(t *testing.T) {
	for _, z := range []int{0, 1, 255, 256, 30000, deep - 1, deep} {
		ofIs(t, even(t, z, 10, 20, 30, 40), plain(), api.Tex{}, 0, 0, fragment(10, 20, 30, 40, z))
		ofIs(t, even(t, z, 10, 20, 30, 40), bound(0, false), chart(1, 1), 0, 0, api.Frag{C: api.Color{R: 0, G: 16, B: 0, A: 39}, Z: z})
	}
}

// Both colours, times each other, channel by channel, to the nearest.
func TestOfTimes(t *testing.T) {
	for _, c := range []struct {
		a    [4]int
		n    int
		want api.Color
	}{
		{[4]int{255, 255, 255, 255}, 0x10203040, api.Color{R: 16, G: 32, B: 48, A: 64}},
		{[4]int{16, 32, 48, 64}, 0xffffffff, api.Color{R: 16, G: 32, B: 48, A: 64}},
		{[4]int{255, 128, 1, 0}, 0x80ff80ff, api.Color{R: 128, G: 128, B: 1, A: 0}},
		{[4]int{100, 100, 100, 100}, 0x64c80a01, api.Color{R: 39, G: 78, B: 4, A: 0}},
		{[4]int{255, 255, 255, 255}, 0, api.Color{}},
		{[4]int{0, 0, 0, 0}, 0xffffffff, api.Color{}},
		{[4]int{-5, 400, 127, 129}, 0x7f7f01fe, api.Color{R: 0, G: 127, B: 0, A: 128}},
	} {
		for _, soft := range []bool{false, true} {
			ofIs(t, even(t, 9, append(c.a[:], 128, 128)...), bound(0, soft), api.Tex{W: 1, H: 1, L: []int{c.n}}, 0, 0, api.Frag{C: c.want, Z: 9})
		}
	}
}

// The place is the fifth and the sixth number, the fifth one from left to right; by each Wrap.
func TestOfPlaces(t *testing.T) {
	img := chart(3, 5)
	for _, c := range []struct{ u, v, wrap, x, y int }{
		{0, 0, 0, 0, 0}, {255, 255, 0, 0, 0}, {256, 0, 0, 1, 0}, {0, 256, 0, 0, 1}, {767, 1279, 0, 2, 4}, {512, 1024, 1, 2, 4}, {511, 1023, 2, 1, 3},
		{768, 1280, 0, 2, 4}, {768, 1280, 1, 0, 0}, {768, 1280, 2, 2, 4}, {-1, -1, 0, 0, 0}, {-1, -1, 1, 2, 4}, {-1, -1, 2, 0, 0}, {-257, -513, 1, 1, 2}, {-257, -513, 2, 1, 2},
		{1100, 1600, 0, 2, 4}, {1100, 1600, 1, 1, 1}, {1100, 1600, 2, 1, 3},
		// At the bounds.
		{far, far, 0, 2, 4}, {far, far, 1, 1, 1}, {far, far, 2, 1, 3}, {far - 1, far - 1, 1, 0, 0}, {far - 1, far - 1, 2, 2, 4},
		{-far, -far, 0, 0, 0}, {-far, -far, 1, 2, 4}, {-far, -far, 2, 2, 4}, {1 - far, 1 - far, 1, 2, 4}, {256 - far, 256 - far, 1, 0, 0}, {256 - far, 256 - far, 2, 2, 4},
		// Beyond: held there.
		{far + 1, far + 1, 1, 1, 1}, {far + 256, far + 256, 1, 1, 1}, {far + 512, far, 1, 1, 1}, {far, far + 512, 1, 1, 1}, {over, over, 1, 1, 1}, {over, over, 2, 1, 3}, {over, over, 0, 2, 4},
		{-far - 1, -far - 1, 1, 2, 4}, {-far - 256, -far - 256, 1, 2, 4}, {-far - 1, -far, 2, 2, 4}, {-far, -far - 512, 1, 2, 4}, {-over, -over, 1, 2, 4}, {-over, -over, 2, 2, 4}, {-over, over, 1, 2, 1}, {over, -over, 2, 1, 4},
	} {
		ofIs(t, white(t, c.u, c.v), bound(c.wrap, false), img, 0, 0, api.Frag{C: dot(c.x, c.y), Z: 7})
	}
}

// Soft, and hard, at the same places.
func TestOfSoft(t *testing.T) {
	// Black and red, white and green.
	img := api.Tex{W: 2, H: 2, L: []int{0x000000ff, 0xff0000ff, 0xffffffff, 0x00ff00ff}}
	for _, c := range []struct {
		u, v, wrap int
		soft       bool
		want       api.Color
	}{
		{256, 128, 0, false, api.Color{R: 255, A: 255}},
		{256, 128, 0, true, api.Color{R: 128, A: 255}},
		{128, 256, 0, true, api.Color{R: 128, G: 128, B: 128, A: 255}},
		{256, 256, 0, true, api.Color{R: 128, G: 128, B: 64, A: 255}},
		{192, 128, 0, true, api.Color{R: 64, A: 255}},
		{128, 128, 1, true, api.Color{A: 255}},
		{0, 128, 0, true, api.Color{A: 255}},
		{0, 128, 1, true, api.Color{R: 128, A: 255}},
		{0, 128, 2, true, api.Color{A: 255}},
		{0, 128, 1, false, api.Color{A: 255}},
		{384, 384, 0, true, api.Color{G: 255, A: 255}},
		{512, 384, 0, true, api.Color{G: 255, A: 255}},
		{512, 384, 1, true, api.Color{R: 128, G: 255, B: 128, A: 255}},
		// At the bounds, and beyond them, where nothing more changes.
		{far, 128, 1, true, api.Color{R: 128, A: 255}},
		{far + 64, 128, 1, true, api.Color{R: 128, A: 255}},
		{-far, 128, 1, true, api.Color{R: 128, A: 255}},
		{-far - 64, 128, 1, true, api.Color{R: 128, A: 255}},
		{-over, 128, 1, true, api.Color{R: 128, A: 255}},
		{384, far + 64, 1, true, api.Color{R: 128, G: 128, A: 255}},
		{384, -over, 1, true, api.Color{R: 128, G: 128, A: 255}},
	} {
		ofIs(t, white(t, c.u, c.v), bound(c.wrap, c.soft), img, 0, 0, api.Frag{C: c.want, Z: 7})
	}
}

// Where the place goes over the triangle: at each pixel its own texel.
func TestOfPlacesGoOver(t *testing.T) {
	// A texel a pixel: at the middle of 0 0, that of its texel.
	img := chart(4, 4)
	at := func(x, y int) api.Spot { return spot(16*x, 16*y, 7, light, light, light, light, 256*x, 256*y) }
	q := set(t, [3]api.Spot{at(0, 0), at(9, 0), at(0, 9)})
	for y := range 4 {
		for x := range 4 {
			for wrap := range 3 {
				ofIs(t, q, bound(wrap, false), img, x, y, api.Frag{C: dot(x, y), Z: 7})
				ofIs(t, q, bound(wrap, true), img, x, y, api.Frag{C: dot(x, y), Z: 7})
			}
		}
	}
	ofIs(t, q, bound(0, false), img, 6, 0, api.Frag{C: dot(3, 0), Z: 7})
	ofIs(t, q, bound(1, false), img, 6, 0, api.Frag{C: dot(2, 0), Z: 7})
	ofIs(t, q, bound(2, false), img, 6, 0, api.Frag{C: dot(1, 0), Z: 7})
}

// Only a Tex above 0 says that there is a texture, whichever it is.
func TestOfAsksTex(t *testing.T) {
	img := api.Tex{W: 1, H: 1, L: []int{0x80808080}}
	for _, c := range []struct {
		tex  int
		want int
	}{{0, 200}, {-1, 200}, {-64, 200}, {least, 200}, {-1 << 32, 200}, {1, 100}, {2, 100}, {63, 100}, {64, 100}, {65, 100}, {1 << 32, 100}, {most, 100}} {
		s := bound(0, false)
		s.Tex = c.tex
		ofIs(t, even(t, 9, 200, 200, 200, 200), s, img, 0, 0, fragment(c.want, c.want, c.want, c.want, 9))
	}
}

// Where texel.Sample has an error, the colour stands alone.
func TestOfWithoutASample(t *testing.T) {
	q, want := even(t, 9, 200, 100, 50, 25, 300, 300), fragment(200, 100, 50, 25, 9)
	for _, soft := range []bool{false, true} {
		for _, img := range wrongImages() {
			for wrap := range 3 {
				ofIs(t, q, bound(wrap, soft), img, 0, 0, want)
			}
		}
		for _, wrap := range []int{-1, 3, 4, 256, 1 << 32, 1<<32 + 1, least, least + 1, most} {
			ofIs(t, q, bound(wrap, soft), chart(3, 5), 0, 0, want)
			ofIs(t, q, bound(wrap, soft), api.Tex{}, 0, 0, want)
		}
	}
}

// Of a state, nothing but the texture has a say: not where the scissor lies, nor the other parts, be they what they may.
func TestOfAsksNoMore(t *testing.T) {
	awful := api.State{
		M: api.Mat{0: most, 15: least}, View: api.Rect{X0: most, X1: least}, Sciss: api.Rect{X0: least, Y0: most, X1: most, Y1: least}, DFn: least,
		St: api.Sten{Fn: most, Ref: least, Read: most, Write: least, Fail: most, ZFail: least, Pass: 8}, Bl: api.Blend{Src: least, Dst: most, Eq: 5, Mask: 16}, Cull: most,
	}
	img := chart(3, 5)
	for _, s := range []api.State{{}, plain(), ways(), shut(), awful} {
		for _, tex := range []int{0, 5} {
			s.Tex, s.Wrap, s.Soft = tex, 1, false
			want := api.Color{R: light, G: light, B: light, A: light}
			if tex > 0 {
				want = dot(1, 2)
			}
			ofIs(t, white(t, 1100, 600), s, img, 0, 0, api.Frag{C: want, Z: 7})
			ofNone(t, white(t, 1100, 600), s, img, 3, 0)
		}
		s.Tex, s.Wrap = 0, most
		ofIs(t, white(t, 1100, 600), s, img, 0, 0, fragment(light, light, light, light, 7))
	}
}

// Held against what the layers below tell, all over: texel.Sample of the place, and tint.Times.
func TestOfMany(t *testing.T) {
	roll := dice(1944)
	met := 0
	for range 400 {
		spots := anySpots(roll, 400)
		for i := range spots {
			spots[i].A[roll(4)] -= 200
			if roll(2) == 0 {
				spots[i].A[4+roll(2)] = roll(2*over+1) - over
			}
		}
		q, is, _ := tri.Setup(spots, api.CullNone)
		if !is {
			continue
		}
		img := chart(1+roll(9), 1+roll(9))
		for i := range 100 {
			x, y := i%10-2, i/10-2
			if _, _, has := tri.At(q, x, y); !has {
				continue
			}
			met++
			wrap, soft := roll(3), roll(2) == 0
			ofIs(t, q, bound(wrap, soft), img, x, y, sampled(t, q, img, wrap, soft, x, y))
		}
	}
	if met < 1000 {
		t.Errorf("only %d pixels were met", met)
	}
}

// sampled is what a triangle has at a pixel, by the layers below.
func sampled(t *testing.T, q api.Tri, img api.Tex, wrap int, soft bool, x, y int) api.Frag {
	t.Helper()
	z, a, _ := tri.At(q, x, y)
	c, e := texel.Sample(img, min(max(a[4], -far), far), min(max(a[5], -far), far), wrap, soft)
	if e != api.OK {
		t.Fatalf("Sample of %v has the error %d", a, e)
	}
	c, e = tint.Times(c, tint.Of(a))
	if e != api.OK {
		t.Fatalf("Times of %v has the error %d", a, e)
	}
	return api.Frag{C: c, Z: z}
}

// TestOfKeepsTheImage holds that a texture is not changed, its spare room neither.
func TestOfKeepsTheImage(t *testing.T) {
	img := chart(3, 5)
	img.L = append(img.L, 1, 2, 3, 4)[:15]
	before := slices.Clone(img.L[:19])
	for _, soft := range []bool{false, true} {
		for wrap := -1; wrap <= 3; wrap++ {
			for _, u := range []int{-over, -1, 0, 128, 700, over} {
				Of(white(t, u, -u), bound(wrap, soft), img, 0, 0)
				Of(white(t, u, -u), bound(wrap, soft), img, 9, 9)
			}
		}
	}
	if !slices.Equal(img.L[:19], before) {
		t.Errorf("%v; want %v", img.L[:19], before)
	}
}

// P19.5: a right pixel stays right.

// All along: whatever is put and cleared, one behind the other.
func TestStaysRight(t *testing.T) {
	roll := dice(195)
	p := px(1, 2, 3, 4, 5, 6)
	for range 60000 {
		var fresh api.Px
		var e api.Errno
		if roll(5) == 0 {
			fresh, e = Clear(p, 1+roll(7), anyPx(roll))
		} else {
			fresh, e = Put(p, ofPx(anyPx(roll)), anyState(roll), roll(6), roll(6))
		}
		if e != api.OK || !mayBe(fresh) || !Right(fresh) {
			t.Fatalf("behind %+v: %+v, %d", p, fresh, e)
		}
		p = fresh
	}
}

// At the ends, by each deed, each equation and each factor.
func TestStaysRightAtTheEnds(t *testing.T) {
	s := plain()
	for _, p := range basics() {
		for _, q := range basics() {
			for i := range 8 * 5 * 10 * 10 {
				kind := i % 8
				s.St = api.Sten{Fn: 7, Ref: full, Read: full, Write: full, Fail: kind, ZFail: kind, Pass: kind}
				s.Bl = api.Blend{Src: i / 8 % 10, Dst: i / 80 % 10, Eq: i / 800, Mask: 15}
				for _, fn := range []int{0, 7} {
					s.St.Fn = fn
					if fresh, e := Put(p, ofPx(q), s, 0, 0); e != api.OK || !mayBe(fresh) {
						t.Fatalf("Put(%+v, %+v, %+v, 0, 0) = %+v, %d", p, q, s, fresh, e)
					}
				}
			}
			for what := 1; what <= 7; what++ {
				if fresh, e := Clear(p, what, q); e != api.OK || !mayBe(fresh) {
					t.Fatalf("Clear(%+v, %d, %+v) = %+v, %d", p, what, q, fresh, e)
				}
			}
		}
	}
}

// What a triangle has may be put on each pixel: it is right, whatever goes over the triangle, and whatever the texture.
func TestStaysRightUnderTriangles(t *testing.T) {
	for _, n := range []int{0, 1, 255, 256, -1, over, -over} {
		for _, z := range []int{0, 9, deep} {
			for _, img := range append(wrongImages(), chart(3, 5), api.Tex{W: 1, H: 1, L: []int{0xffffffff}}) {
				s := bound(api.WrapMirror, n > 1)
				f, is := Of(even(t, z, n, min(255-n, over), n/2, -n, n, -n), s, img, 0, 0)
				p, e := Put(px(1, 2, 3, 4, 5, 6), f, s, 0, 0)
				if !is || e != api.OK || !mayBe(p) || p != (api.Px{C: f.C, Z: z, S: 6}) {
					t.Errorf("with %d and %d: %+v, %t, %+v, %d", n, z, f, is, p, e)
				}
			}
		}
	}
}
