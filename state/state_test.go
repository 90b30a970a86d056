package state

import (
	"math"
	"slices"
	"testing"

	"tempera/api"
)

const most, least = math.MaxInt, math.MinInt

const (
	// side is a picture's greatest side.
	side = 256
	// span is a viewport's greatest side, and the greatest amount of its place.
	span = 4096
	// end is the greatest amount of a matrix's number.
	end = 1 << 24
	// handles is how many handles there are.
	handles = 64
)

// beyond are numbers beyond bounds, some of which would not be if their higher bits, or their sign, were lost.
func beyond(lo, hi int) []int {
	return []int{
		hi + 1, lo - 1, hi + 2, lo - 2, hi + 256, lo - 256, 1<<32 + lo, 1<<32 + hi, -1<<32 + lo, -1<<32 + hi, 1<<62 + lo, 1<<62 + hi, -1 << 62,
		least, least + 1, least + hi, most - hi, most - 1, most,
	}
}

// cells are a matrix's numbers that may be, no two the same, the ends among them.
func cells() api.Mat {
	return api.Mat{end, -end, 0, 1, -1, 65536, -65536, end - 1, 1 - end, 7, -8, 9, 1000, -2000, 3000000, -4000000}
}

// ports are viewports that may be: ordinary ones, empty ones, and those at the ends.
func ports() []api.Rect {
	return []api.Rect{
		{}, {X0: 1, Y0: 2, X1: 9, Y1: 7}, {X0: 3, Y0: 5, X1: 3, Y1: 5}, {X0: -span, Y0: -span}, {X0: -span, Y0: span, Y1: span},
		{X0: span, Y0: -span, X1: 2 * span}, {X0: span, Y0: span, X1: 2 * span, Y1: 2 * span}, {X0: -7, Y0: 8, X1: span - 7, Y1: span + 8},
	}
}

// wrongPorts are viewports that may not be.
func wrongPorts() []api.Rect {
	l := []api.Rect{
		{X0: 1}, {Y0: 1}, {X0: span + 1, X1: span + 1}, {Y0: -span - 1}, {X1: span + 1}, {Y1: span + 1}, {X0: -span, X1: 1}, {Y0: span, Y1: 2*span + 1},
		{X0: least, X1: most}, {X0: most, X1: least}, {Y0: least, Y1: most}, {Y0: most, Y1: least}, {X0: least, X1: least}, {Y0: most, Y1: most},
		{X0: 4, Y0: 4, X1: 3, Y1: 9}, {X0: 4, Y0: 4, X1: 9, Y1: 3}, {X1: 1 << 32}, {Y1: -1 << 32},
	}
	for _, n := range beyond(-span, span) {
		l = append(l, api.Rect{X0: n, X1: n}, api.Rect{Y0: n, Y1: n})
	}
	return l
}

// begun is the state at the beginning, of a little picture, as the chapter says it.
func begun() api.State {
	return api.State{
		M:     api.Mat{65536, 0, 0, 0, 0, 65536, 0, 0, 0, 0, 65536, 0, 0, 0, 0, 65536},
		View:  api.Rect{X1: 8, Y1: 5},
		Sciss: api.Rect{X1: 8, Y1: 5},
		DFn:   7,
		DPut:  true,
		St:    api.Sten{Fn: 7, Read: 255, Write: 255},
		Bl:    api.Blend{Src: 1, Mask: 15},
	}
}

// greatest is a state that may be, most of whose parts are at their greatest.
func greatest() api.State {
	return api.State{
		M:     cells(),
		View:  api.Rect{X0: span, Y0: span, X1: 2 * span, Y1: 2 * span},
		Sciss: api.Rect{X0: -span, Y0: -span, X1: -9, Y1: -8},
		DFn:   7,
		DPut:  true,
		St:    api.Sten{Fn: 7, Ref: 255, Read: 255, Write: 255, Fail: 7, ZFail: 7, Pass: 7},
		Bl:    api.Blend{Src: 9, Dst: 9, Eq: 4, Mask: 15},
		Cull:  2,
		Tex:   handles,
		Wrap:  2,
		Soft:  true,
	}
}

// ordinary is a state that may be, each of whose parts is another one than those of the state at the beginning.
func ordinary() api.State {
	return api.State{
		M:     api.Mat{1, 2, 3, 4, 5, 6, 7, 8, 9, 10, 11, 12, 13, 14, 15, 16},
		View:  api.Rect{X0: 1, Y0: 2, X1: 30, Y1: 40},
		Sciss: api.Rect{X0: 5, Y0: 6, X1: 7, Y1: 8},
		DFn:   3,
		St:    api.Sten{Fn: 1, Ref: 2, Read: 3, Write: 4, Fail: 5, ZFail: 6, Pass: 7},
		Bl:    api.Blend{Src: 6, Dst: 7, Eq: 1, Mask: 9},
		Cull:  1,
		Tex:   33,
		Wrap:  1,
		Soft:  true,
	}
}

// fine are states that may be.
func fine() []api.State {
	return []api.State{{}, begun(), greatest(), ordinary()}
}

// awful is a state none of whose parts may be.
func awful() api.State {
	return api.State{
		M:     api.Mat{0: most, 15: least},
		View:  api.Rect{X0: most, Y0: least, X1: least, Y1: most},
		Sciss: api.Rect{X0: least, Y0: most, X1: most, Y1: least},
		DFn:   least,
		St:    api.Sten{Fn: most, Ref: least, Read: most, Write: least, Fail: most, ZFail: least, Pass: 8},
		Bl:    api.Blend{Src: least, Dst: most, Eq: 5, Mask: 16},
		Cull:  most,
		Tex:   least,
		Wrap:  most,
		Soft:  true,
	}
}

// part is a part of a state: what it may be, what it may not be, and the error then, which may hang on what it is.
type part struct {
	name  string
	right []func(*api.State)
	wrong []wrong
}

// wrong is what a part may not be.
type wrong struct {
	put  func(*api.State)
	want api.Errno
}

// numbers is a part, or one of its numbers, that is from lo to hi.
func numbers(name string, lo, hi int, want api.Errno, at func(*api.State) *int) part {
	p := part{name: name}
	for _, n := range []int{lo, lo + 1, (lo + hi) / 2, hi - 1, hi} {
		p.right = append(p.right, func(s *api.State) { *at(s) = n })
	}
	for _, n := range beyond(lo, hi) {
		p.wrong = append(p.wrong, wrong{func(s *api.State) { *at(s) = n }, want})
	}
	return p
}

// rects is a part that is a rectangle.
func rects(name string, at func(*api.State) *api.Rect) part {
	p := part{name: name}
	for _, r := range ports() {
		p.right = append(p.right, func(s *api.State) { *at(s) = r })
	}
	for _, r := range wrongPorts() {
		p.wrong = append(p.wrong, wrong{func(s *api.State) { *at(s) = r }, api.ErrView})
	}
	return p
}

// parts are a state's parts, in the order in which they are asked, each number of the matrix, the stencil test and the blend for itself.
func parts() []part {
	var l []part
	for i := range 16 {
		l = append(l, numbers("M", -end, end, api.ErrCoord, func(s *api.State) *int { return &s.M[i] }))
	}
	return append(l,
		rects("View", func(s *api.State) *api.Rect { return &s.View }),
		rects("Sciss", func(s *api.State) *api.Rect { return &s.Sciss }),
		numbers("DFn", 0, 7, api.ErrKind, func(s *api.State) *int { return &s.DFn }),
		numbers("Fn", 0, 7, api.ErrKind, func(s *api.State) *int { return &s.St.Fn }),
		numbers("Fail", 0, 7, api.ErrKind, func(s *api.State) *int { return &s.St.Fail }),
		numbers("ZFail", 0, 7, api.ErrKind, func(s *api.State) *int { return &s.St.ZFail }),
		numbers("Pass", 0, 7, api.ErrKind, func(s *api.State) *int { return &s.St.Pass }),
		numbers("Ref", 0, 255, api.ErrRange, func(s *api.State) *int { return &s.St.Ref }),
		numbers("Read", 0, 255, api.ErrRange, func(s *api.State) *int { return &s.St.Read }),
		numbers("Write", 0, 255, api.ErrRange, func(s *api.State) *int { return &s.St.Write }),
		numbers("Src", 0, 9, api.ErrKind, func(s *api.State) *int { return &s.Bl.Src }),
		numbers("Dst", 0, 9, api.ErrKind, func(s *api.State) *int { return &s.Bl.Dst }),
		numbers("Eq", 0, 4, api.ErrKind, func(s *api.State) *int { return &s.Bl.Eq }),
		numbers("Mask", 0, 15, api.ErrRange, func(s *api.State) *int { return &s.Bl.Mask }),
		numbers("Cull", 0, 2, api.ErrKind, func(s *api.State) *int { return &s.Cull }),
		numbers("Tex", 0, handles, api.ErrNone, func(s *api.State) *int { return &s.Tex }),
		numbers("Wrap", 0, 2, api.ErrKind, func(s *api.State) *int { return &s.Wrap }),
	)
}

// told asks what Set tells: a state, or an error, and the zero state beside it.
func told(t *testing.T, s api.State, c api.Cmd, want api.State, e api.Errno) {
	t.Helper()
	if e != api.OK {
		want = api.State{}
	}
	if got, code := Set(s, c); got != want || code != e {
		t.Errorf("Set(%+v, %+v) = %+v, %d; want %+v, %d", s, c, got, code, want, e)
	}
}

// P18.1: the state at the beginning.

func TestBegin(t *testing.T) {
	for _, w := range []int{1, 2, 8, 16, 17, 255, side} {
		for _, h := range []int{1, 2, 5, 16, 17, 255, side} {
			want := begun()
			want.View = api.Rect{X1: w, Y1: h}
			want.Sciss = want.View
			if s, e := Begin(w, h); s != want || e != api.OK {
				t.Errorf("Begin(%d, %d) = %+v, %d; want %+v", w, h, s, e, want)
			}
		}
	}
}

func TestBeginMayBe(t *testing.T) {
	for w := 1; w <= side; w++ {
		for _, h := range []int{1, 256 - w/2} {
			if s, _ := Begin(w, h); Check(s) != api.OK {
				t.Errorf("Begin(%d, %d) may not be: %d", w, h, Check(s))
			}
		}
	}
}

func TestBeginWrong(t *testing.T) {
	for _, n := range append(beyond(1, side), 0) {
		for _, l := range [][2]int{{n, 8}, {8, n}, {n, n}, {n, 1}, {1, n}, {side, n}, {n, side}} {
			if s, e := Begin(l[0], l[1]); s != (api.State{}) || e != api.ErrRange {
				t.Errorf("Begin(%d, %d) = %+v, %d; want zeros, ErrRange", l[0], l[1], s, e)
			}
		}
	}
}

// P18.2: which states may be, and which commands set something.

func TestCheckFine(t *testing.T) {
	for _, s := range fine() {
		if e := Check(s); e != api.OK {
			t.Errorf("Check(%+v) = %d; want OK", s, e)
		}
	}
}

func TestCheckEachPart(t *testing.T) {
	for _, s := range fine() {
		for _, p := range parts() {
			for i, put := range p.right {
				c := s
				put(&c)
				if e := Check(c); e != api.OK {
					t.Errorf("%s, right %d: Check(%+v) = %d; want OK", p.name, i, c, e)
				}
			}
			for i, w := range p.wrong {
				c := s
				w.put(&c)
				if e := Check(c); e != w.want {
					t.Errorf("%s, wrong %d: Check(%+v) = %d; want %d", p.name, i, c, e, w.want)
				}
			}
		}
	}
}

func TestCheckTwoParts(t *testing.T) {
	l := parts()
	for i, a := range l {
		for _, b := range l[i+1:] {
			for _, first := range a.wrong {
				s := ordinary()
				b.wrong[0].put(&s)
				first.put(&s)
				if e := Check(s); e != first.want {
					t.Errorf("%s and %s: Check(%+v) = %d; want %d", a.name, b.name, s, e, first.want)
				}
			}
		}
	}
}

// TestCheckAllParts mends an awful state's parts one behind the other: what is told is always the first one's error of the rest.
func TestCheckAllParts(t *testing.T) {
	s, good := awful(), greatest()
	for _, c := range []struct {
		mend func()
		then api.Errno
	}{
		{func() {}, api.ErrCoord},
		{func() { s.M[0] = good.M[0] }, api.ErrCoord},
		{func() { s.M = good.M }, api.ErrView},
		{func() { s.View = good.View }, api.ErrView},
		{func() { s.Sciss = good.Sciss }, api.ErrKind},
		{func() { s.DFn = 0 }, api.ErrKind},
		{func() { s.St.Fn, s.St.Fail, s.St.ZFail, s.St.Pass = 0, 0, 0, 0 }, api.ErrRange},
		{func() { s.St = good.St }, api.ErrKind},
		{func() { s.Bl.Src, s.Bl.Dst, s.Bl.Eq = 0, 0, 0 }, api.ErrRange},
		{func() { s.Bl = good.Bl }, api.ErrKind},
		{func() { s.Cull = 0 }, api.ErrNone},
		{func() { s.Tex = 0 }, api.ErrKind},
		{func() { s.Wrap = 0 }, api.OK},
	} {
		c.mend()
		if e := Check(s); e != c.then {
			t.Errorf("Check(%+v) = %d; want %d", s, e, c.then)
		}
	}
}

// TestCheckAsksFlagsNothing holds that a state may be whatever DPut and Soft are.
func TestCheckAsksFlagsNothing(t *testing.T) {
	for i := range 4 {
		s := ordinary()
		s.DPut, s.Soft = i&1 != 0, i&2 != 0
		if e := Check(s); e != api.OK {
			t.Errorf("Check(%+v) = %d; want OK", s, e)
		}
	}
}

func TestSets(t *testing.T) {
	does := []int{api.OpMat, api.OpView, api.OpSciss, api.OpDepth, api.OpSten, api.OpBlend, api.OpCull, api.OpBind}
	for op := -300; op <= 300; op++ {
		if got, want := Sets(op), slices.Contains(does, op); got != want {
			t.Errorf("Sets(%d) = %t; want %t", op, got, want)
		}
	}
	for _, op := range nothing() {
		if Sets(op) {
			t.Errorf("Sets(%d) = true", op)
		}
	}
}

// nothing are kinds of commands that set nothing, some of which would if their higher bits, or their sign, were lost.
func nothing() []int {
	l := []int{
		0, api.OpVerts, api.OpIndex, api.OpTex, api.OpFree, api.OpClear, api.OpDraw, api.OpFrame, api.OpFence, api.OpWait, api.OpRead, api.OpPresent, api.MaxOp + 1, -1,
		least, least + 1, most - 1, most,
	}
	for op := api.OpMat; op <= api.OpBind; op++ {
		l = append(l, -op, op+256, op+1<<16, op+1<<32, op-1<<32, op+least, op+1<<62, most-op)
	}
	return l
}

// P18.3: what is set.

// setTable is commands, what they make of the state at the beginning, and their errors.
func setTable() []struct {
	c    api.Cmd
	put  func(*api.State)
	want api.Errno
} {
	m := cells()
	same := func(*api.State) {}
	return []struct {
		c    api.Cmd
		put  func(*api.State)
		want api.Errno
	}{
		{api.Cmd{Op: api.OpMat, L: m[:]}, func(s *api.State) { s.M = m }, api.OK},
		{api.Cmd{Op: api.OpMat, L: make([]int, 16)}, func(s *api.State) { s.M = api.Mat{} }, api.OK},
		{api.Cmd{Op: api.OpView, A: 1, B: 2, C: 3, D: 5}, func(s *api.State) { s.View = api.Rect{X0: 1, Y0: 2, X1: 4, Y1: 7} }, api.OK},
		{api.Cmd{Op: api.OpView, A: -span, B: span, C: span}, func(s *api.State) { s.View = api.Rect{X0: -span, Y0: span, Y1: span} }, api.OK},
		{api.Cmd{Op: api.OpView}, func(s *api.State) { s.View = api.Rect{} }, api.OK},
		{api.Cmd{Op: api.OpSciss, A: 1, B: 2, C: 3, D: 5}, func(s *api.State) { s.Sciss = api.Rect{X0: 1, Y0: 2, X1: 4, Y1: 7} }, api.OK},
		{api.Cmd{Op: api.OpSciss, A: span, B: -span, D: span}, func(s *api.State) { s.Sciss = api.Rect{X0: span, Y0: -span, X1: span} }, api.OK},
		{api.Cmd{Op: api.OpDepth, A: 1}, func(s *api.State) { s.DFn, s.DPut = 1, false }, api.OK},
		{api.Cmd{Op: api.OpDepth, A: 6, B: 1}, func(s *api.State) { s.DFn, s.DPut = 6, true }, api.OK},
		{api.Cmd{Op: api.OpDepth, A: 7, B: 1}, same, api.OK},
		{api.Cmd{Op: api.OpSten, L: []int{1, 2, 3, 4, 5, 6, 7}}, func(s *api.State) {
			s.St = api.Sten{Fn: 1, Ref: 2, Read: 3, Write: 4, Fail: 5, ZFail: 6, Pass: 7}
		}, api.OK},
		{api.Cmd{Op: api.OpSten, L: []int{7, 255, 254, 253, 7, 6, 5}}, func(s *api.State) {
			s.St = api.Sten{Fn: 7, Ref: 255, Read: 254, Write: 253, Fail: 7, ZFail: 6, Pass: 5}
		}, api.OK},
		{api.Cmd{Op: api.OpBlend, A: 9, B: 8, C: 4, D: 13}, func(s *api.State) { s.Bl = api.Blend{Src: 9, Dst: 8, Eq: 4, Mask: 13} }, api.OK},
		{api.Cmd{Op: api.OpBlend, A: 6, B: 7, C: 1, D: 2}, func(s *api.State) { s.Bl = api.Blend{Src: 6, Dst: 7, Eq: 1, Mask: 2} }, api.OK},
		{api.Cmd{Op: api.OpBlend}, func(s *api.State) { s.Bl = api.Blend{} }, api.OK},
		{api.Cmd{Op: api.OpCull}, same, api.OK},
		{api.Cmd{Op: api.OpCull, A: 1}, func(s *api.State) { s.Cull = 1 }, api.OK},
		{api.Cmd{Op: api.OpCull, A: 2}, func(s *api.State) { s.Cull = 2 }, api.OK},
		{api.Cmd{Op: api.OpBind}, same, api.OK},
		{api.Cmd{Op: api.OpBind, H: 1}, func(s *api.State) { s.Tex = 1 }, api.OK},
		{api.Cmd{Op: api.OpBind, H: handles, A: 2, B: 1}, func(s *api.State) { s.Tex, s.Wrap, s.Soft = handles, 2, true }, api.OK},
		{api.Cmd{Op: api.OpBind, A: 1, B: 1}, func(s *api.State) { s.Wrap, s.Soft = 1, true }, api.OK},

		{api.Cmd{Op: api.OpMat}, same, api.ErrForm},
		{api.Cmd{Op: api.OpMat, L: []int{}}, same, api.ErrForm},
		{api.Cmd{Op: api.OpMat, L: m[:15]}, same, api.ErrForm},
		{api.Cmd{Op: api.OpMat, L: append(m[:], 0)}, same, api.ErrForm},
		{api.Cmd{Op: api.OpMat, L: slices.Repeat(m[:], 2)}, same, api.ErrForm},
		{api.Cmd{Op: api.OpMat, L: make([]int, 1<<16+16)}, same, api.ErrForm},
		{api.Cmd{Op: api.OpMat, L: []int{most}}, same, api.ErrForm},
		{api.Cmd{Op: api.OpMat, L: slices.Repeat([]int{least}, 17)}, same, api.ErrForm},
		{api.Cmd{Op: api.OpMat, L: slices.Repeat([]int{least}, 16)}, same, api.ErrCoord},
		{api.Cmd{Op: api.OpView, A: span + 1}, same, api.ErrView},
		{api.Cmd{Op: api.OpView, C: -1}, same, api.ErrView},
		{api.Cmd{Op: api.OpView, A: most, B: least, C: least, D: most}, same, api.ErrView},
		{api.Cmd{Op: api.OpSciss, D: span + 1}, same, api.ErrView},
		{api.Cmd{Op: api.OpSciss, B: -span - 1}, same, api.ErrView},
		{api.Cmd{Op: api.OpDepth, A: 8}, same, api.ErrKind},
		{api.Cmd{Op: api.OpDepth, A: -1, B: 2}, same, api.ErrKind},
		{api.Cmd{Op: api.OpDepth, A: least, B: most}, same, api.ErrKind},
		{api.Cmd{Op: api.OpDepth, B: 2}, same, api.ErrArg},
		{api.Cmd{Op: api.OpDepth, A: 7, B: -1}, same, api.ErrArg},
		{api.Cmd{Op: api.OpSten}, same, api.ErrForm},
		{api.Cmd{Op: api.OpSten, L: []int{}}, same, api.ErrForm},
		{api.Cmd{Op: api.OpSten, L: make([]int, 6)}, same, api.ErrForm},
		{api.Cmd{Op: api.OpSten, L: make([]int, 8)}, same, api.ErrForm},
		{api.Cmd{Op: api.OpSten, L: make([]int, 14)}, same, api.ErrForm},
		{api.Cmd{Op: api.OpSten, L: []int{8, 256, 256, 256, 8, 8}}, same, api.ErrForm},
		{api.Cmd{Op: api.OpSten, L: []int{8, 256, 256, 256, 8, 8, 8, 8}}, same, api.ErrForm},
		{api.Cmd{Op: api.OpSten, L: []int{8, 256, 256, 256, 8, 8, 8}}, same, api.ErrKind},
		{api.Cmd{Op: api.OpSten, L: []int{0, most, 0, 0, 0, 0, -1}}, same, api.ErrKind},
		{api.Cmd{Op: api.OpSten, L: []int{0, 0, 0, 256, 0, 0, 0}}, same, api.ErrRange},
		{api.Cmd{Op: api.OpBlend, A: 10, D: 16}, same, api.ErrKind},
		{api.Cmd{Op: api.OpBlend, B: -1}, same, api.ErrKind},
		{api.Cmd{Op: api.OpBlend, C: 5, D: most}, same, api.ErrKind},
		{api.Cmd{Op: api.OpBlend, D: 16}, same, api.ErrRange},
		{api.Cmd{Op: api.OpCull, A: 3}, same, api.ErrKind},
		{api.Cmd{Op: api.OpCull, A: -1}, same, api.ErrKind},
		{api.Cmd{Op: api.OpBind, H: 65}, same, api.ErrNone},
		{api.Cmd{Op: api.OpBind, H: -1, A: 3, B: 2}, same, api.ErrNone},
		{api.Cmd{Op: api.OpBind, H: most, A: least, B: most}, same, api.ErrNone},
		{api.Cmd{Op: api.OpBind, H: 64, A: 3, B: 2}, same, api.ErrKind},
		{api.Cmd{Op: api.OpBind, A: -1, B: -1}, same, api.ErrKind},
		{api.Cmd{Op: api.OpBind, A: 2, B: 2}, same, api.ErrArg},
		{api.Cmd{Op: api.OpBind, B: -1}, same, api.ErrArg},
	}
}

func TestSetTold(t *testing.T) {
	for _, c := range setTable() {
		want := begun()
		c.put(&want)
		told(t, begun(), c.c, want, c.want)
	}
}

// TestSetKeepsTheRest holds that a command sets just what it says, whatever the other parts are, and asks none of them.
func TestSetKeepsTheRest(t *testing.T) {
	for _, s := range append(fine(), awful()) {
		for _, c := range setTable() {
			want := s
			// What stands there at the beginning, a command may set too.
			whole(&want, c.c.Op)
			c.put(&want)
			told(t, s, c.c, want, c.want)
		}
	}
}

// whole makes what a kind of command sets what it is at the beginning.
func whole(s *api.State, op int) {
	b := begun()
	switch op {
	case api.OpMat:
		s.M = b.M
	case api.OpView:
		s.View = b.View
	case api.OpSciss:
		s.Sciss = b.Sciss
	case api.OpDepth:
		s.DFn, s.DPut = b.DFn, b.DPut
	case api.OpSten:
		s.St = b.St
	case api.OpBlend:
		s.Bl = b.Bl
	case api.OpCull:
		s.Cull = b.Cull
	case api.OpBind:
		s.Tex, s.Wrap, s.Soft = b.Tex, b.Wrap, b.Soft
	}
}

// TestSetAsksNoMore holds that a command's other fields are not asked, whatever they are.
func TestSetAsksNoMore(t *testing.T) {
	for _, c := range setTable() {
		for _, n := range []int{-1, 17, 256, 5000, 1<<32 + 1, least, most} {
			asked, full := c.c, api.Cmd{Op: c.c.Op, H: n, A: n, B: -n, C: n, D: n, L: []int{n, 3}, Verts: []api.Vertex{{X: n, C: api.Color{R: n}}}}
			switch c.c.Op {
			case api.OpMat, api.OpSten:
				full.L = asked.L
			case api.OpView, api.OpSciss, api.OpBlend:
				full.A, full.B, full.C, full.D = asked.A, asked.B, asked.C, asked.D
			case api.OpDepth:
				full.A, full.B = asked.A, asked.B
			case api.OpCull:
				full.A = asked.A
			case api.OpBind:
				full.H, full.A, full.B = asked.H, asked.A, asked.B
			}
			want := begun()
			c.put(&want)
			told(t, begun(), full, want, c.want)
		}
	}
}

func TestSetNothing(t *testing.T) {
	m := cells()
	for _, op := range nothing() {
		told(t, begun(), api.Cmd{Op: op}, api.State{}, api.ErrKind)
		told(t, awful(), api.Cmd{Op: op, H: 1, A: 1, B: 1, C: 1, D: 1, L: m[:]}, api.State{}, api.ErrKind)
	}
}

func TestSetMatrix(t *testing.T) {
	for i := range 16 {
		for _, n := range []int{-end, 1 - end, -1, 0, 1, end - 1, end} {
			m := cells()
			m[i] = n
			want := ordinary()
			want.M = m
			told(t, ordinary(), api.Cmd{Op: api.OpMat, L: m[:]}, want, api.OK)
		}
		for _, n := range beyond(-end, end) {
			m := cells()
			m[i] = n
			told(t, ordinary(), api.Cmd{Op: api.OpMat, L: m[:]}, api.State{}, api.ErrCoord)
		}
	}
}

func TestSetLengths(t *testing.T) {
	for many := range 70 {
		e, f := api.ErrForm, api.ErrForm
		want, other := begun(), begun()
		if many == 16 {
			want.M, e = api.Mat{}, api.OK
		}
		if many == 7 {
			other.St, f = api.Sten{}, api.OK
		}
		told(t, begun(), api.Cmd{Op: api.OpMat, L: make([]int, many)}, want, e)
		told(t, begun(), api.Cmd{Op: api.OpSten, L: make([]int, many)}, other, f)
		// Of the wrong numbers none is asked ahead of how many there are.
		if many != 16 {
			told(t, begun(), api.Cmd{Op: api.OpMat, L: slices.Repeat([]int{most}, many)}, want, e)
		}
		if many != 7 {
			told(t, begun(), api.Cmd{Op: api.OpSten, L: slices.Repeat([]int{least}, many)}, other, f)
		}
	}
}

func TestSetRects(t *testing.T) {
	numbers := []int{least, least + 1, -1 << 32, -span - 1, -span, -1, 0, 1, 7, span - 1, span, span + 1, 2 * span, 1 << 32, 1<<32 + 7, most - 1, most}
	for _, x := range numbers {
		for _, y := range numbers {
			for _, w := range numbers {
				for _, h := range numbers {
					e, r := api.ErrView, api.Rect{}
					if -span <= x && x <= span && -span <= y && y <= span && 0 <= w && w <= span && 0 <= h && h <= span {
						e, r = api.OK, api.Rect{X0: x, Y0: y, X1: x + w, Y1: y + h}
					}
					want, other := ordinary(), ordinary()
					want.View, other.Sciss = r, r
					told(t, ordinary(), api.Cmd{Op: api.OpView, A: x, B: y, C: w, D: h}, want, e)
					told(t, ordinary(), api.Cmd{Op: api.OpSciss, A: x, B: y, C: w, D: h}, other, e)
				}
			}
		}
	}
}

// edges are the numbers about a range from 0 to hi, within it and beyond.
func edges(hi int) []int {
	return append(beyond(0, hi), 0, 1, hi-1, hi)
}

func TestSetDepth(t *testing.T) {
	for _, a := range append(edges(7), 2, 3, 4, 5) {
		for _, b := range edges(1) {
			e, want := api.OK, greatest()
			want.DFn, want.DPut = a, b == 1
			if b < 0 || b > 1 {
				e = api.ErrArg
			}
			if a < 0 || a > 7 {
				e = api.ErrKind
			}
			told(t, greatest(), api.Cmd{Op: api.OpDepth, A: a, B: b}, want, e)
		}
	}
}

func TestSetSten(t *testing.T) {
	for i := range 7 {
		hi, wrong := 7, api.ErrKind
		if i >= 1 && i <= 3 {
			hi, wrong = 255, api.ErrRange
		}
		for _, n := range edges(hi) {
			l := []int{6, 5, 4, 3, 2, 1, 0}
			l[i] = n
			e, want := api.OK, ordinary()
			want.St = api.Sten{Fn: l[0], Ref: l[1], Read: l[2], Write: l[3], Fail: l[4], ZFail: l[5], Pass: l[6]}
			if n < 0 || n > hi {
				e = wrong
			}
			told(t, ordinary(), api.Cmd{Op: api.OpSten, L: l}, want, e)
		}
	}
}

func TestSetBlend(t *testing.T) {
	for i, hi := range [4]int{9, 9, 4, 15} {
		for _, n := range edges(hi) {
			l := [4]int{6, 7, 1, 8}
			l[i] = n
			e, want := api.OK, begun()
			want.Bl = api.Blend{Src: l[0], Dst: l[1], Eq: l[2], Mask: l[3]}
			if n < 0 || n > hi {
				e = api.ErrKind
				if i == 3 {
					e = api.ErrRange
				}
			}
			told(t, begun(), api.Cmd{Op: api.OpBlend, A: l[0], B: l[1], C: l[2], D: l[3]}, want, e)
		}
	}
}

func TestSetCull(t *testing.T) {
	for _, n := range edges(2) {
		e, want := api.OK, ordinary()
		want.Cull = n
		if n < 0 || n > 2 {
			e = api.ErrKind
		}
		told(t, ordinary(), api.Cmd{Op: api.OpCull, A: n}, want, e)
	}
}

func TestSetBind(t *testing.T) {
	for _, h := range edges(handles) {
		for _, a := range edges(2) {
			for _, b := range edges(1) {
				e, want := api.OK, greatest()
				want.Tex, want.Wrap, want.Soft = h, a, b == 1
				switch {
				case h < 0 || h > handles:
					e = api.ErrNone
				case a < 0 || a > 2:
					e = api.ErrKind
				case b < 0 || b > 1:
					e = api.ErrArg
				}
				told(t, greatest(), api.Cmd{Op: api.OpBind, H: h, A: a, B: b}, want, e)
			}
		}
	}
}

// TestSetChangesNothing holds that a command's list and vertices are as they were, and what lies behind them, and that a state that was told does not hang on them.
func TestSetChangesNothing(t *testing.T) {
	m := cells()
	for _, c := range []api.Cmd{
		{Op: api.OpMat, L: m[:]}, {Op: api.OpMat, L: m[:15]}, {Op: api.OpSten, L: []int{1, 2, 3, 4, 5, 6, 7}}, {Op: api.OpSten, L: []int{1, 2, 3, 4, 5, 6}},
		{Op: api.OpCull, A: 1, L: m[:7]}, {Op: api.OpDraw, L: m[:7]},
	} {
		many := len(c.L)
		room := append(slices.Clone(c.L), 91, 92, 93, 94)
		verts := []api.Vertex{{X: 1, U: 2}, {Y: 3}, {Z: 4}}
		was, wereVerts := slices.Clone(room), slices.Clone(verts)
		c.L, c.Verts = room[:many], verts[:2]
		s, _ := Set(ordinary(), c)
		if !slices.Equal(room, was) || !slices.Equal(verts, wereVerts) {
			t.Errorf("op %d changed %v to %v, %v", c.Op, was, room, verts)
		}
		kept := s
		clear(room)
		if s != kept {
			t.Errorf("op %d: the state hangs on the list", c.Op)
		}
	}
}

// P18.4: what may be stays so.

// commands are commands of all kinds with all sorts of numbers, at the edges and beyond, of which many may not be.
func commands() []api.Cmd {
	m, wild := cells(), slices.Repeat([]int{end}, 16)
	lists := [][]int{nil, m[:], wild, m[:15], append(m[:], 1), {1, 2, 3, 4, 5, 6, 7}, {7, 255, 255, 255, 7, 7, 7}, {0, 0, 0, 0, 0, 0, 8}, {0, -1, 0, 0, 0, 0, 0}, {0, 0, 0, 0, 0, 0}}
	for i := range 16 {
		l := slices.Clone(m[:])
		l[i] = end + 1
		lists = append(lists, l)
	}
	var all []api.Cmd
	for op := -1; op <= api.MaxOp+1; op++ {
		for _, l := range lists {
			all = append(all, api.Cmd{Op: op, L: l})
		}
		l := []int{-span - 1, -1, 0, 1, 2, 3, 7, 8, 9, 10, 15, 16, 64, 65, span, span + 1}
		for i, a := range l {
			for j, b := range l {
				for _, c := range l {
					d, h := l[(3*i+5*j)%len(l)], l[(7*i+j)%len(l)]
					all = append(all, api.Cmd{Op: op, H: h, A: a, B: b, C: c, D: d})
				}
			}
		}
	}
	return all
}

func TestStaysRight(t *testing.T) {
	set := make(map[int]int)
	for _, s := range fine() {
		for _, c := range commands() {
			fresh, e := Set(s, c)
			if e != api.OK {
				continue
			}
			set[c.Op]++
			if e := Check(fresh); e != api.OK {
				t.Errorf("Set(%+v, %+v) = %+v, which may not be: %d", s, c, fresh, e)
			}
		}
	}
	for op := api.OpMat; op <= api.OpBind; op++ {
		if set[op] < 8 {
			t.Errorf("only %d commands %d set something", set[op], op)
		}
	}
}

// TestStaysRightAllAlong sets all that may be set one behind the other: the state may be all along, and in the end each part is what the last command said of it.
func TestStaysRightAllAlong(t *testing.T) {
	s, _ := Begin(8, 5)
	for _, c := range commands() {
		if fresh, e := Set(s, c); e == api.OK {
			s = fresh
		}
		if e := Check(s); e != api.OK {
			t.Fatalf("behind %+v: %+v may not be: %d", c, s, e)
		}
	}
	for _, c := range []api.Cmd{
		{Op: api.OpBind}, {Op: api.OpCull}, {Op: api.OpBlend, A: 1, D: 15}, {Op: api.OpSten, L: []int{7, 0, 255, 255, 0, 0, 0}}, {Op: api.OpDepth, A: 7, B: 1},
		{Op: api.OpSciss, C: 8, D: 5}, {Op: api.OpView, C: 8, D: 5}, {Op: api.OpMat, L: []int{65536, 0, 0, 0, 0, 65536, 0, 0, 0, 0, 65536, 0, 0, 0, 0, 65536}},
	} {
		s, _ = Set(s, c)
	}
	if s != begun() {
		t.Errorf("%+v; want %+v", s, begun())
	}
}

// TestSetAgreesWithCheck holds that where the numbers are of the right form, a command may not be for the error that Check has of the state with them.
func TestSetAgreesWithCheck(t *testing.T) {
	for _, p := range parts() {
		for _, w := range p.wrong {
			s := ordinary()
			w.put(&s)
			st, bl := s.St, s.Bl
			worst := api.OK
			for _, c := range []api.Cmd{
				{Op: api.OpMat, L: s.M[:]},
				{Op: api.OpDepth, A: s.DFn},
				{Op: api.OpSten, L: []int{st.Fn, st.Ref, st.Read, st.Write, st.Fail, st.ZFail, st.Pass}},
				{Op: api.OpBlend, A: bl.Src, B: bl.Dst, C: bl.Eq, D: bl.Mask},
				{Op: api.OpCull, A: s.Cull},
				{Op: api.OpBind, H: s.Tex, A: s.Wrap},
			} {
				_, e := Set(begun(), c)
				worst = max(worst, e)
			}
			want := Check(s)
			if want == api.ErrView {
				// A viewport is not set by its corners.
				want = api.OK
			}
			if worst != want {
				t.Errorf("%s: Set tells %d of %+v; Check %d", p.name, worst, s, want)
			}
		}
	}
}
