package cmd

import (
	"math"
	"slices"
	"strings"
	"testing"

	"tempera/api"
)

const most, least = math.MaxInt, math.MinInt

// mine are a kind's own fields, as the chapter lists them: H, A, B, C, D, L, and V, its vertices.
func mine(op int) string {
	switch op {
	case 1:
		return "HV"
	case 2:
		return "HL"
	case 3:
		return "HABL"
	case 4:
		return "H"
	case 5, 9:
		return "L"
	case 6, 7, 10, 13:
		return "ABCD"
	case 8:
		return "AB"
	case 11, 16, 17:
		return "A"
	case 12:
		return "HAB"
	case 14:
		return "HABC"
	case 18:
		return "HABCD"
	}
	return ""
}

// letters are all fields of a command but its Op.
const letters = "HABCDLV"

// number is one of a command's numbers.
func number(c *api.Cmd, letter rune) *int {
	return map[rune]*int{'H': &c.H, 'A': &c.A, 'B': &c.B, 'C': &c.C, 'D': &c.D}[letter]
}

// give lays one field of a command into another one.
func give(to *api.Cmd, from api.Cmd, letter rune) {
	switch letter {
	case 'L':
		to.L = slices.Clone(from.L)
	case 'V':
		to.Verts = slices.Clone(from.Verts)
	default:
		*number(to, letter) = *number(&from, letter)
	}
}

// kept is a command's own fields, letter by letter.
func kept(c api.Cmd) api.Cmd {
	k := api.Cmd{Op: c.Op}
	if c.Op < 1 || c.Op > 19 {
		return api.Cmd{}
	}
	for _, letter := range mine(c.Op) {
		give(&k, c, letter)
	}
	return k
}

// same tells whether two commands are: lists without an element are the same, nil or not.
func same(a, b api.Cmd) bool {
	return a.Op == b.Op && a.H == b.H && a.A == b.A && a.B == b.B && a.C == b.C && a.D == b.D &&
		slices.Equal(a.L, b.L) && slices.Equal(a.Verts, b.Verts)
}

// alike tells whether two commands are of one type, and the same.
func alike(a, b Cmd) bool {
	switch x := a.(type) {
	case Make:
		y, is := b.(Make)
		return is && x.Kind == y.Kind && x.H == y.H && x.W == y.W && x.Height == y.Height && slices.Equal(x.L, y.L) && slices.Equal(x.Verts, y.Verts)
	case Set:
		y, is := b.(Set)
		return is && same(x.C, y.C)
	case Wipe:
		y, is := b.(Wipe)
		return is && x == y
	case Draw:
		y, is := b.(Draw)
		return is && x == y
	case Mark:
		y, is := b.(Mark)
		return is && x == y
	case Look:
		y, is := b.(Look)
		return is && x == y
	}
	return false
}

// corners are as many vertices, no two numbers of which are the same.
func corners(n int) []api.Vertex {
	var l []api.Vertex
	for i := range n {
		k := 100 * (i + 1)
		l = append(l, api.Vertex{X: k, Y: k + 1, Z: k + 2, C: api.Color{R: k + 3, G: k + 4, B: k + 5, A: k + 6}, U: k + 7, V: k + 8})
	}
	return l
}

// counted are as many numbers, no two of which are the same.
func counted(n int) []int {
	var l []int
	for i := range n {
		l = append(l, 50-i)
	}
	return l
}

// full is a command of a kind, all of whose fields are set.
func full(op int) api.Cmd {
	return api.Cmd{Op: op, H: 1, A: 2, B: 3, C: 4, D: 5, L: []int{6, 7}, Verts: corners(2)}
}

// fulls are commands of a kind, all of whose fields are set, to ordinary numbers, to such that no command may have, and to the ends of the ints; their lists have no number, one, many.
func fulls(op int) []api.Cmd {
	return []api.Cmd{
		full(op),
		{Op: op},
		{Op: op, L: []int{}, Verts: []api.Vertex{}},
		{Op: op, H: 64, A: 64, B: 64, C: 64, D: 64, L: []int{0}, Verts: make([]api.Vertex, 1)},
		{Op: op, H: -1, A: -2, B: -3, C: -4, D: -5, L: []int{-6}, Verts: []api.Vertex{{X: -7, V: -8}}},
		{Op: op, H: 65, A: 1 << 16, B: 1 << 32, C: 1<<32 + 1, D: 1 << 62, L: counted(16), Verts: corners(3)},
		{Op: op, H: least, A: most, B: least, C: most, D: least, L: []int{least, most, 0, most, least}, Verts: []api.Vertex{{X: least, Y: most, C: api.Color{A: most}, V: least}}},
		{Op: op, H: most, A: least, B: most, C: least, D: most, L: counted(1 << 13), Verts: corners(1 << 11)},
	}
}

// nothing are numbers that are no kind of command, many of which would be one if their higher bits, or their sign, were lost.
func nothing() []int {
	l := []int{0, 20, 21, 22, 31, 32, 64, 100, least, least + 1, most, most - 1, 1 << 8, 1 << 16, 1 << 32, 1 << 62, -1 << 32}
	for op := 1; op <= 19; op++ {
		l = append(l, -op, ^op-20, op+32, op+1<<8, op+1<<16, op+1<<31, op+1<<32, op+1<<62, op-1<<32, least+op, most-op)
	}
	return l
}

// kindsOf are the kinds of commands of each type, as the chapter lists them.
func kindsOf(name string) []int {
	return map[string][]int{"make": {1, 2, 3, 4}, "set": {5, 6, 7, 8, 9, 10, 11, 12}, "wipe": {13}, "draw": {14}, "mark": {15, 16, 17, 19}, "look": {18}}[name]
}

// dice tells numbers below n that look as if by chance.
func dice(seed uint64) func(n int) int {
	return func(n int) int {
		seed = seed*6364136223846793005 + 1442695040888963407
		return int(seed >> 33 % uint64(n))
	}
}

// anyNumber is a number at an end of something, or an ordinary one.
func anyNumber(roll func(int) int) int {
	ends := []int{0, 1, -1, 64, 65, 255, 256, 1 << 32, -1 << 32, most, least}
	if i := roll(2 * len(ends)); i < len(ends) {
		return ends[i]
	}
	return roll(2001) - 1000
}

// anyCommand is a command of a kind, of any numbers.
func anyCommand(roll func(int) int, op int) api.Cmd {
	c := api.Cmd{Op: op}
	for _, letter := range "HABCD" {
		*number(&c, letter) = anyNumber(roll)
	}
	for range roll(5) {
		c.L = append(c.L, anyNumber(roll))
	}
	for range roll(4) {
		c.Verts = append(c.Verts, api.Vertex{X: anyNumber(roll), C: api.Color{G: anyNumber(roll)}, V: anyNumber(roll)})
	}
	return c
}

// roomy is a command of a kind whose lists have spare room, and that room.
func roomy(op int) (api.Cmd, []int, []api.Vertex) {
	l, v := counted(6), corners(5)
	c := full(op)
	c.L, c.Verts = l[:3], v[:2]
	return c, l, v
}

// untouched tells whether a command that is roomy is as it was.
func untouched(op int, c api.Cmd, l []int, v []api.Vertex) bool {
	was, _, _ := roomy(op)
	return same(c, was) && slices.Equal(l, counted(6)) && slices.Equal(v, corners(5)) && cap(c.L) == cap(l) && cap(c.Verts) == cap(v)
}

// spoil changes whatever a command's lists have, and what lies behind them.
func spoil(l []int, v []api.Vertex) {
	l, v = l[:cap(l)], v[:cap(v)]
	for i := range l {
		l[i] = -77
	}
	for i := range v {
		v[i] = api.Vertex{X: -77}
	}
}

// P20.1: a command's own fields.

func TestOwnTold(t *testing.T) {
	l, v := []int{6, 7}, corners(2)
	for _, want := range []api.Cmd{
		{Op: api.OpVerts, H: 1, Verts: v},
		{Op: api.OpIndex, H: 1, L: l},
		{Op: api.OpTex, H: 1, A: 2, B: 3, L: l},
		{Op: api.OpFree, H: 1},
		{Op: api.OpMat, L: l},
		{Op: api.OpView, A: 2, B: 3, C: 4, D: 5},
		{Op: api.OpSciss, A: 2, B: 3, C: 4, D: 5},
		{Op: api.OpDepth, A: 2, B: 3},
		{Op: api.OpSten, L: l},
		{Op: api.OpBlend, A: 2, B: 3, C: 4, D: 5},
		{Op: api.OpCull, A: 2},
		{Op: api.OpBind, H: 1, A: 2, B: 3},
		{Op: api.OpClear, A: 2, B: 3, C: 4, D: 5},
		{Op: api.OpDraw, H: 1, A: 2, B: 3, C: 4},
		{Op: api.OpFrame},
		{Op: api.OpFence, A: 2},
		{Op: api.OpWait, A: 2},
		{Op: api.OpRead, H: 1, A: 2, B: 3, C: 4, D: 5},
		{Op: api.OpPresent},
	} {
		if o := Own(full(want.Op)); !same(o, want) {
			t.Errorf("of %d: %v, want %v", want.Op, o, want)
		}
	}
}

func TestOwnOfAll(t *testing.T) {
	for op := 1; op <= 19; op++ {
		for i, c := range fulls(op) {
			if o := Own(c); !same(o, kept(c)) {
				t.Errorf("of %d, command %d: %v", op, i, o)
			}
		}
	}
}

func TestOwnEachField(t *testing.T) {
	for op := 1; op <= 19; op++ {
		for _, letter := range letters {
			c := api.Cmd{Op: op}
			give(&c, full(op), letter)
			want := api.Cmd{Op: op}
			if strings.ContainsRune(mine(op), letter) {
				want = c
			}
			if o := Own(c); !same(o, want) {
				t.Errorf("of %d with %c alone: %v", op, letter, o)
			}
		}
	}
}

func TestOwnStays(t *testing.T) {
	for op := 1; op <= 19; op++ {
		for _, c := range fulls(op) {
			if o := Own(c); !same(Own(o), o) {
				t.Errorf("of %d, twice: %v", op, Own(o))
			}
		}
	}
}

func TestOwnNothing(t *testing.T) {
	for _, op := range nothing() {
		for _, c := range fulls(op) {
			if o := Own(c); !same(o, api.Cmd{}) {
				t.Errorf("of %d: %v", op, o)
			}
		}
	}
}

func TestOwnIsNew(t *testing.T) {
	for op := -1; op <= 21; op++ {
		c, l, v := roomy(op)
		o := Own(c)
		want := kept(c)
		spoil(o.L, o.Verts)
		if !untouched(op, c, l, v) {
			t.Errorf("of %d: what was handed in is changed: %v %v %v", op, c, l, v)
		}
		o = Own(c)
		spoil(c.L, c.Verts)
		if !same(o, want) {
			t.Errorf("of %d: what was answered is changed: %v", op, o)
		}
	}
}

// P20.2: types of commands, and back again.

// typed are commands of each type and kind, with their own fields alone, and what their fields are.
func typed() []struct {
	c Cmd
	f api.Cmd
} {
	l, v := counted(3), corners(2)
	return []struct {
		c Cmd
		f api.Cmd
	}{
		{Make{Kind: api.OpVerts, H: 7, Verts: v}, api.Cmd{Op: 1, H: 7, Verts: v}},
		{Make{Kind: api.OpIndex, H: 7, L: l}, api.Cmd{Op: 2, H: 7, L: l}},
		{Make{Kind: api.OpTex, H: 7, W: 8, Height: 9, L: l}, api.Cmd{Op: 3, H: 7, A: 8, B: 9, L: l}},
		{Make{Kind: api.OpFree, H: 7}, api.Cmd{Op: 4, H: 7}},
		{Set{C: api.Cmd{Op: api.OpMat, L: l}}, api.Cmd{Op: 5, L: l}},
		{Set{C: api.Cmd{Op: api.OpView, A: 6, B: 7, C: 8, D: 9}}, api.Cmd{Op: 6, A: 6, B: 7, C: 8, D: 9}},
		{Set{C: api.Cmd{Op: api.OpSciss, A: 6, B: 7, C: 8, D: 9}}, api.Cmd{Op: 7, A: 6, B: 7, C: 8, D: 9}},
		{Set{C: api.Cmd{Op: api.OpDepth, A: 6, B: 7}}, api.Cmd{Op: 8, A: 6, B: 7}},
		{Set{C: api.Cmd{Op: api.OpSten, L: l}}, api.Cmd{Op: 9, L: l}},
		{Set{C: api.Cmd{Op: api.OpBlend, A: 6, B: 7, C: 8, D: 9}}, api.Cmd{Op: 10, A: 6, B: 7, C: 8, D: 9}},
		{Set{C: api.Cmd{Op: api.OpCull, A: 6}}, api.Cmd{Op: 11, A: 6}},
		{Set{C: api.Cmd{Op: api.OpBind, H: 5, A: 6, B: 7}}, api.Cmd{Op: 12, H: 5, A: 6, B: 7}},
		{Wipe{What: 1, Color: 2, Depth: 3, Stencil: 4}, api.Cmd{Op: 13, A: 1, B: 2, C: 3, D: 4}},
		{Draw{Verts: 1, Index: 2, From: 3, Count: 4}, api.Cmd{Op: 14, H: 1, A: 2, B: 3, C: 4}},
		{Mark{Kind: api.OpFrame}, api.Cmd{Op: 15}},
		{Mark{Kind: api.OpFence, Fence: 3}, api.Cmd{Op: 16, A: 3}},
		{Mark{Kind: api.OpWait, Fence: 3}, api.Cmd{Op: 17, A: 3}},
		{Look{What: 1, X: 2, Y: 3, W: 4, H: 5}, api.Cmd{Op: 18, H: 1, A: 2, B: 3, C: 4, D: 5}},
		{Mark{Kind: api.OpPresent}, api.Cmd{Op: 19}},
	}
}

// more is a command that has all fields, its own or not.
func more(c api.Cmd) api.Cmd {
	m := full(c.Op)
	for _, letter := range mine(c.Op) {
		give(&m, c, letter)
	}
	return m
}

// broad are commands that have more than their own fields, and what is kept of them.
func broad() []struct {
	c Cmd
	f api.Cmd
} {
	l, v := counted(3), corners(2)
	broad := []struct {
		c Cmd
		f api.Cmd
	}{
		{Make{api.OpVerts, 7, 8, 9, l, v}, api.Cmd{Op: 1, H: 7, Verts: v}},
		{Make{api.OpIndex, 7, 8, 9, l, v}, api.Cmd{Op: 2, H: 7, L: l}},
		{Make{api.OpTex, 7, 8, 9, l, v}, api.Cmd{Op: 3, H: 7, A: 8, B: 9, L: l}},
		{Make{api.OpFree, 7, 8, 9, l, v}, api.Cmd{Op: 4, H: 7}},
		{Mark{api.OpFrame, 3}, api.Cmd{Op: 15}},
		{Mark{api.OpPresent, most}, api.Cmd{Op: 19}},
	}
	for _, op := range kindsOf("set") {
		broad = append(broad, struct {
			c Cmd
			f api.Cmd
		}{Set{full(op)}, kept(full(op))})
	}
	return broad
}

func TestOfTold(t *testing.T) {
	for _, c := range typed() {
		for _, f := range []api.Cmd{c.f, more(c.f)} {
			if o, e := Of(f); !alike(o, c.c) || e != api.OK {
				t.Errorf("of %v: %T %v %d", f, o, o, e)
			}
		}
	}
}

func TestOfEachKind(t *testing.T) {
	for op := 1; op <= 19; op++ {
		o, e := Of(full(op))
		if e != api.OK {
			t.Fatalf("of %d: %d", op, e)
		}
		var name string
		switch o.(type) {
		case Make:
			name = "make"
		case Set:
			name = "set"
		case Wipe:
			name = "wipe"
		case Draw:
			name = "draw"
		case Mark:
			name = "mark"
		case Look:
			name = "look"
		}
		if !slices.Contains(kindsOf(name), op) || o.Op() != op {
			t.Errorf("of %d: %T, its Op %d", op, o, o.Op())
		}
	}
}

func TestOfNothing(t *testing.T) {
	for _, op := range nothing() {
		for _, c := range fulls(op) {
			if o, e := Of(c); o != nil || e != api.ErrKind {
				t.Errorf("of %d: %v %d", op, o, e)
			}
		}
	}
}

func TestOp(t *testing.T) {
	for _, c := range append(typed(), broad()...) {
		if op := c.c.Op(); op != c.f.Op {
			t.Errorf("of %T %v: %d, want %d", c.c, c.c, op, c.f.Op)
		}
	}
	for _, c := range []struct {
		c  Cmd
		op int
	}{{Make{}, 0}, {Set{}, 0}, {Wipe{}, 13}, {Draw{}, 14}, {Mark{}, 0}, {Look{}, 18}, {Look{H: 3, W: 4}, 18}, {&Draw{}, 14}, {&Mark{Kind: 16}, 16}} {
		if op := c.c.Op(); op != c.op {
			t.Errorf("of %T %v: %d, want %d", c.c, c.c, op, c.op)
		}
	}
}

func TestFlatExample(t *testing.T) {
	if f, e := Flat(Draw{1, 2, 0, 3}); !same(f, api.Cmd{Op: api.OpDraw, H: 1, A: 2, B: 0, C: 3}) || e != api.OK {
		t.Error(f, e)
	}
}

func TestFlatTold(t *testing.T) {
	for _, c := range append(typed(), broad()...) {
		if f, e := Flat(c.c); !same(f, c.f) || e != api.OK {
			t.Errorf("of %T %v: %v %d", c.c, c.c, f, e)
		}
	}
}

func TestFlatZeros(t *testing.T) {
	for _, c := range []struct {
		c  Cmd
		op int
	}{{Wipe{}, 13}, {Draw{}, 14}, {Look{}, 18}, {Make{Kind: 1}, 1}, {Set{api.Cmd{Op: 5}}, 5}, {Mark{Kind: 16}, 16}} {
		if f, e := Flat(c.c); !same(f, api.Cmd{Op: c.op}) || e != api.OK {
			t.Errorf("of %T %v: %v %d", c.c, c.c, f, e)
		}
	}
}

func TestThereAndBack(t *testing.T) {
	for op := 1; op <= 19; op++ {
		for i, c := range fulls(op) {
			o, e := Of(c)
			if e != api.OK {
				t.Fatalf("of %d, command %d: %d", op, i, e)
			}
			f, e := Flat(o)
			if !same(f, kept(c)) || e != api.OK {
				t.Errorf("of %d, command %d: %v %d", op, i, f, e)
			}
			if again, e := Of(f); !alike(again, o) || e != api.OK {
				t.Errorf("of %d, command %d, again: %v %d", op, i, again, e)
			}
		}
	}
}

func TestThereAndBackOfTypes(t *testing.T) {
	for _, c := range typed() {
		f, e := Flat(c.c)
		if e != api.OK {
			t.Fatalf("of %T %v: %d", c.c, c.c, e)
		}
		if o, e := Of(f); !alike(o, c.c) || e != api.OK {
			t.Errorf("of %T %v: %T %v %d", c.c, c.c, o, o, e)
		}
	}
}

func TestThereAndBackOfMany(t *testing.T) {
	roll := dice(20)
	for range 20000 {
		c := anyCommand(roll, roll(23)-1)
		want, told := kept(c), api.OK
		if want.Op == 0 {
			told = api.ErrKind
		}
		if own := Own(c); !same(own, want) {
			t.Fatalf("own of %v: %v", c, own)
		}
		o, e := Of(c)
		if e != told || (o == nil) != (told != api.OK) {
			t.Fatalf("of %v: %v %d", c, o, e)
		}
		if told != api.OK {
			continue
		}
		if f, e := Flat(o); !same(f, want) || e != api.OK {
			t.Fatalf("flat of %v: %v %d", o, f, e)
		}
	}
}

func TestFlatNone(t *testing.T) {
	var none Cmd
	for _, c := range []Cmd{nil, none} {
		if f, e := Flat(c); !same(f, api.Cmd{}) || e != api.ErrNil {
			t.Error(f, e)
		}
	}
}

// plainDraw is a draw by another type.
type plainDraw Draw

func (plainDraw) Op() int { return api.OpDraw }

// withDraw has a draw within it, and its Op.
type withDraw struct{ Draw }

// within has any command within it, or none: its Op falls then.
type within struct{ Cmd }

// falls is a command whose Op falls.
type falls struct{}

func (falls) Op() int { panic("asked") }

// byNumber is a command that is its kind.
type byNumber int

func (n byNumber) Op() int { return int(n) }

// byFunction is a command that has its kind told.
type byFunction func() int

func (f byFunction) Op() int { return f() }

// byList is a command that can't be held against another one.
type byList []int

func (byList) Op() int { return api.OpDraw }

// others are commands of types that are none of the chapter's, pointers to those among them, and pointers to nothing.
func others() []Cmd {
	l := []Cmd{
		&Make{Kind: api.OpFree}, &Set{C: api.Cmd{Op: api.OpMat}}, &Wipe{}, &Draw{}, &Draw{1, 2, 0, 3}, &Mark{Kind: api.OpFrame}, &Look{},
		(*Make)(nil), (*Set)(nil), (*Wipe)(nil), (*Draw)(nil), (*Mark)(nil), (*Look)(nil),
		plainDraw{1, 2, 0, 3}, withDraw{}, withDraw{Draw{1, 2, 0, 3}}, &withDraw{}, within{Draw{1, 2, 0, 3}}, within{}, falls{}, (*within)(nil),
		byFunction(nil), byFunction(func() int { return api.OpDraw }), byList{1}, byList(nil),
	}
	for op := -1; op <= 20; op++ {
		l = append(l, byNumber(op))
	}
	return l
}

func TestFlatOfOthers(t *testing.T) {
	for _, c := range others() {
		if f, e := Flat(c); !same(f, api.Cmd{}) || e != api.ErrKind {
			t.Errorf("of %T: %v %d", c, f, e)
		}
	}
}

// kinds are all kinds there are, and numbers that are none.
func kinds() []int {
	l := nothing()
	for op := range 20 {
		l = append(l, op)
	}
	return l
}

func TestFlatKinds(t *testing.T) {
	for _, op := range kinds() {
		of := map[string]Cmd{"make": Make{op, 1, 2, 3, []int{6, 7}, corners(2)}, "set": Set{full(op)}, "mark": Mark{op, 4}}
		for name, c := range of {
			told, kind := api.ErrKind, 0
			if slices.Contains(kindsOf(name), op) {
				told, kind = api.OK, op
			}
			f, e := Flat(c)
			if e != told || f.Op != kind || told != api.OK && !same(f, api.Cmd{}) {
				t.Errorf("of a %s of %d: %v %d", name, op, f, e)
			}
		}
	}
}

func TestOfIsNew(t *testing.T) {
	for op := 1; op <= 19; op++ {
		c, l, v := roomy(op)
		o, _ := Of(c)
		want, _ := Of(c)
		switch o := o.(type) {
		case Make:
			spoil(o.L, o.Verts)
		case Set:
			spoil(o.C.L, o.C.Verts)
		}
		if !untouched(op, c, l, v) {
			t.Errorf("of %d: what was handed in is changed: %v %v %v", op, c, l, v)
		}
		o, _ = Of(c)
		spoil(c.L, c.Verts)
		if !alike(o, want) {
			t.Errorf("of %d: what was answered is changed: %v", op, o)
		}
	}
}

func TestFlatIsNew(t *testing.T) {
	for op := 1; op <= 12; op++ {
		c, l, v := roomy(op)
		var o Cmd = Set{c}
		if op < 5 {
			o = Make{op, c.H, c.A, c.B, c.L, c.Verts}
		}
		f, _ := Flat(o)
		spoil(f.L, f.Verts)
		if !untouched(op, c, l, v) {
			t.Errorf("of %d: what was handed in is changed: %v %v %v", op, c, l, v)
		}
		f, _ = Flat(o)
		want := kept(c)
		spoil(c.L, c.Verts)
		if !same(f, want) {
			t.Errorf("of %d: what was answered is changed: %v", op, f)
		}
	}
}

// P20.3: draws, and what is none.

// someDraws are draws of ordinary numbers, of such that no draw may have, and of the ends of the ints.
func someDraws() []Draw {
	return []Draw{{1, 2, 0, 3}, {}, {4, 3, 2, 1}, {64, 64, 4095, 4096}, {-1, -2, -3, -4}, {least, most, least, most}, {most, least, most, least}, {1, 2, 0, 3}}
}

// noDraws are commands that are no draws: none at all, those of the other types, and of types that are none of the chapter's.
func noDraws() []Cmd {
	l := append(others(), nil, Make{}, Make{Kind: api.OpDraw}, Set{}, Set{C: api.Cmd{Op: api.OpDraw, H: 1}}, Wipe{}, Mark{}, Mark{Kind: api.OpDraw, Fence: 1}, Look{})
	for _, c := range typed() {
		if c.f.Op != api.OpDraw {
			l = append(l, c.c)
		}
	}
	return l
}

// listed are draws as commands.
func listed(l []Draw) []Cmd {
	var cs []Cmd
	for _, d := range l {
		cs = append(cs, d)
	}
	return cs
}

func TestAsDraw(t *testing.T) {
	for _, d := range someDraws() {
		if o, is := AsDraw(d); o != d || !is {
			t.Errorf("of %v: %v %v", d, o, is)
		}
	}
	for op := 1; op <= 19; op++ {
		c, _ := Of(full(op))
		want := Draw{}
		if op == 14 {
			want = Draw{1, 2, 3, 4}
		}
		if o, is := AsDraw(c); o != want || is != (op == 14) {
			t.Errorf("of %d: %v %v", op, o, is)
		}
	}
}

func TestAsDrawNone(t *testing.T) {
	for _, c := range noDraws() {
		if o, is := AsDraw(c); o != (Draw{}) || is {
			t.Errorf("of %T: %v %v", c, o, is)
		}
	}
}

func TestDraws(t *testing.T) {
	if l, e := Draws(); len(l) != 0 || e != api.OK {
		t.Error(l, e)
	}
	if l, e := Draws([]Cmd{}...); len(l) != 0 || e != api.OK {
		t.Error(l, e)
	}
	if l, e := Draws(Draw{Count: 3}); !slices.Equal(l, []Draw{{Count: 3}}) || e != api.OK {
		t.Error(l, e)
	}
	if l, e := Draws(Draw{1, 2, 0, 3}, Draw{1, 2, 3, 6}, Draw{}, Draw{1, 2, 0, 3}); !slices.Equal(l, []Draw{{1, 2, 0, 3}, {1, 2, 3, 6}, {}, {1, 2, 0, 3}}) || e != api.OK {
		t.Error(l, e)
	}
}

func TestDrawsOfMany(t *testing.T) {
	var many []Draw
	for i := range 1 << 12 {
		many = append(many, Draw{i, -i, 3 * i, most - i})
	}
	some := someDraws()
	for n := range len(some) + 1 {
		for _, ds := range [][]Draw{some[:n], some[n:], many[:100*n]} {
			if l, e := Draws(listed(ds)...); !slices.Equal(l, ds) || e != api.OK {
				t.Errorf("of %d: %v %d", len(ds), l, e)
			}
		}
	}
	if l, e := Draws(listed(many)...); !slices.Equal(l, many) || e != api.OK {
		t.Errorf("of many: %d of them, %d", len(l), e)
	}
}

func TestDrawsWild(t *testing.T) {
	for _, c := range noDraws() {
		if l, e := Draws(c); len(l) != 0 || e != api.ErrWild {
			t.Errorf("of %T: %v %d", c, l, e)
		}
		for at := range someDraws() {
			cs := listed(someDraws())
			cs[at] = c
			if l, e := Draws(cs...); len(l) != 0 || e != api.ErrWild {
				t.Errorf("with %T at %d: %v %d", c, at, l, e)
			}
		}
	}
	if l, e := Draws(noDraws()...); len(l) != 0 || e != api.ErrWild {
		t.Error(l, e)
	}
	if l, e := Draws(make([]Cmd, 5)...); len(l) != 0 || e != api.ErrWild {
		t.Error(l, e)
	}
}

func TestDrawsBehindWild(t *testing.T) {
	if l, e := Draws(Draw{Count: 3}, nil); len(l) != 0 || e != api.ErrWild {
		t.Error(l, e)
	}
	if l, e := Draws(Draw{Count: 6}); !slices.Equal(l, []Draw{{Count: 6}}) || e != api.OK {
		t.Error(l, e)
	}
}

func TestDrawsIsNew(t *testing.T) {
	all := listed(someDraws())
	cs := all[:4]
	l, e := Draws(cs...)
	if e != api.OK {
		t.Fatal(e)
	}
	for i := range l {
		l[i] = Draw{Count: -77}
	}
	for i, d := range someDraws() {
		if all[i] != Cmd(d) {
			t.Errorf("draw %d is changed: %v", i, all[i])
		}
	}
	l, _ = Draws(cs...)
	clear(all)
	if !slices.Equal(l, someDraws()[:4]) {
		t.Errorf("what was answered is changed: %v", l)
	}
}

func TestWildIsLeft(t *testing.T) {
	all := append(listed(someDraws()), Wipe{What: 7})
	if _, e := Draws(all...); e != api.ErrWild {
		t.Fatal(e)
	}
	for i, d := range someDraws() {
		if all[i] != Cmd(d) {
			t.Errorf("draw %d is changed: %v", i, all[i])
		}
	}
	if all[len(all)-1] != Cmd(Wipe{What: 7}) {
		t.Error(all)
	}
}
