package code

import (
	"bytes"
	"math"
	"math/big"
	"slices"
	"strings"
	"testing"

	"tempera/api"
)

const most, least = math.MaxInt, math.MinInt

// mine are a kind's own fields, as chapter 20 lists them: H, A, B, C, D, L, and V, its vertices.
func mine(op int) string {
	switch op {
	case 1:
		return "HV"
	case 2:
		return "HL"
	case 3:
		return "HABL"
	case 4:
		return "H"
	case 5, 9:
		return "L"
	case 6, 7, 10, 13:
		return "ABCD"
	case 8:
		return "AB"
	case 11, 16, 17:
		return "A"
	case 12:
		return "HAB"
	case 14:
		return "HABC"
	case 18:
		return "HABCD"
	}
	return ""
}

// has tells whether a field is one of a kind's own.
func has(op int, letter rune) bool {
	return strings.ContainsRune(mine(op), letter)
}

// placeOf is where one of a command's numbers stands.
func placeOf(c *api.Cmd, letter rune) *int {
	return map[rune]*int{'H': &c.H, 'A': &c.A, 'B': &c.B, 'C': &c.C, 'D': &c.D}[letter]
}

// kept is a command with its own fields alone.
func kept(c api.Cmd) api.Cmd {
	k := api.Cmd{Op: c.Op}
	for _, letter := range mine(c.Op) {
		switch letter {
		case 'L':
			k.L = slices.Clone(c.L)
		case 'V':
			k.Verts = slices.Clone(c.Verts)
		default:
			*placeOf(&k, letter) = *placeOf(&c, letter)
		}
	}
	return k
}

// same tells whether two commands are: lists without an element are the same, nil or not.
func same(a, b api.Cmd) bool {
	return a.Op == b.Op && a.H == b.H && a.A == b.A && a.B == b.B && a.C == b.C && a.D == b.D &&
		slices.Equal(a.L, b.L) && slices.Equal(a.Verts, b.Verts)
}

// alike tells whether what was read is the same.
func alike(a, b []Item) bool {
	return slices.EqualFunc(a, b, func(x, y Item) bool { return x.E == y.E && same(x.C, y.C) })
}

// rightly are items of commands that have no error.
func rightly(l ...api.Cmd) []Item {
	var items []Item
	for _, c := range l {
		items = append(items, Item{C: kept(c)})
	}
	return items
}

// wrongly is an item that is an error.
func wrongly(e api.Errno) Item {
	return Item{E: e}
}

// corners are as many vertices, no two numbers of which are the same.
func corners(n int) []api.Vertex {
	var l []api.Vertex
	for i := range n {
		k := 9*i + 1
		l = append(l, api.Vertex{X: k, Y: k + 1, Z: k + 2, C: api.Color{R: k + 3, G: k + 4, B: k + 5, A: k + 6}, U: k + 7, V: k + 8})
	}
	return l
}

// counted are as many numbers, no two of which are the same.
func counted(n int) []int {
	var l []int
	for i := range n {
		l = append(l, 50-i)
	}
	return l
}

// full is a command of a kind, all of whose fields are set.
func full(op int) api.Cmd {
	return api.Cmd{Op: op, H: 1, A: 2, B: 3, C: 4, D: 5, L: []int{6, 7}, Verts: corners(1)}
}

// fulls are commands of a kind, all of whose fields are set, to ordinary numbers, to such that no command may have, and to the ends of the ints; their lists have no element, one, many, as many as may be.
func fulls(op int) []api.Cmd {
	return []api.Cmd{
		full(op),
		{Op: op},
		{Op: op, L: []int{}, Verts: []api.Vertex{}},
		{Op: op, H: 64, A: 64, B: 64, C: 64, D: 64, L: []int{0}, Verts: make([]api.Vertex, 1)},
		{Op: op, H: -1, A: -2, B: -3, C: -4, D: -5, L: []int{-6}, Verts: []api.Vertex{{X: -7, V: -8}}},
		{Op: op, H: 65, A: 1 << 16, B: 1 << 32, C: 1<<32 + 1, D: 1 << 62, L: counted(16), Verts: corners(3)},
		{Op: op, H: least, A: most, B: least, C: most, D: least, L: []int{least, most, 0, most, least}, Verts: []api.Vertex{{X: least, Y: most, C: api.Color{A: most}, V: least}}},
		{Op: op, H: most, A: least, B: most, C: least, D: most, L: counted(4096), Verts: corners(1024)},
	}
}

// everything is commands of all kinds, of all fields there may be.
func everything() []api.Cmd {
	var l []api.Cmd
	for op := 1; op <= 19; op++ {
		l = append(l, fulls(op)...)
	}
	return l
}

// nothing are numbers that are no kind of command, many of which would be one if their higher bits, or their sign, were lost.
func nothing() []int {
	l := []int{0, 20, 21, 22, 31, 32, 64, 100, 127, 128, 255, 256, least, least + 1, most, most - 1, 1 << 16, 1 << 32, 1 << 62, -1 << 32}
	for op := 1; op <= 19; op++ {
		l = append(l, -op, ^op-20, op+32, op+128, op+1<<8, op+1<<16, op+1<<31, op+1<<32, op+1<<62, op-1<<8, op-1<<32, least+op, most-op)
	}
	return l
}

// ends are numbers at which what is told has a byte more, on both sides, and around them.
func ends() []int {
	l := []int{0, 1, -1, 2, -2, 63, 64, -64, -65, most, most - 1, least, least + 1}
	for k := range 63 {
		for near := -2; near <= 2; near++ {
			l = append(l, 1<<k+near, -1<<k+near)
		}
	}
	return l
}

// dice tells numbers below n that look as if by chance.
func dice(seed uint64) func(n int) int {
	return func(n int) int {
		seed = seed*6364136223846793005 + 1442695040888963407
		return int(seed >> 33 % uint64(n))
	}
}

// anyNumber is a number at an end of something, or an ordinary one.
func anyNumber(roll func(int) int) int {
	switch near := roll(5) - 2; roll(4) {
	case 0:
		return 1<<roll(64) + near
	case 1:
		return -1<<roll(64) + near
	}
	return roll(2001) - 1000
}

// anyCommand is a command of a kind, of any numbers.
func anyCommand(roll func(int) int, op int) api.Cmd {
	c := api.Cmd{Op: op}
	for _, letter := range "HABCD" {
		*placeOf(&c, letter) = anyNumber(roll)
	}
	for range roll(5) {
		c.L = append(c.L, anyNumber(roll))
	}
	for range roll(4) {
		c.Verts = append(c.Verts, api.Vertex{X: anyNumber(roll), Z: anyNumber(roll), C: api.Color{G: anyNumber(roll)}, V: anyNumber(roll)})
	}
	return c
}

// anyCommands are up to as many commands of any kinds.
func anyCommands(roll func(int) int, n int) []api.Cmd {
	var l []api.Cmd
	for range roll(n + 1) {
		l = append(l, anyCommand(roll, roll(19)+1))
	}
	return l
}

// spoil changes whatever a command's lists have, and what lies behind them.
func spoil(c api.Cmd) {
	l, v := c.L[:cap(c.L)], c.Verts[:cap(c.Verts)]
	for i := range l {
		l[i] = -77
	}
	for i := range v {
		v[i] = api.Vertex{X: -77}
	}
}

// What follows tells commands as the chapter does, and reads bytes so, by numbers of any size.

// digits is a count as bytes: its digits of 128.
func digits(n *big.Int) []byte {
	left, digit, base := new(big.Int).Set(n), new(big.Int), big.NewInt(128)
	var b []byte
	for {
		left.DivMod(left, base, digit)
		if left.Sign() == 0 {
			return append(b, byte(digit.Int64()))
		}
		b = append(b, byte(128+digit.Int64()))
	}
}

// digitsOf is how many there are, as bytes.
func digitsOf(n int) []byte {
	return digits(big.NewInt(int64(n)))
}

// numberTold is a number as bytes: 2 n, or -2 n - 1.
func numberTold(n int) []byte {
	twice := new(big.Int).Mul(big.NewInt(int64(n)), big.NewInt(2))
	if n < 0 {
		twice.Sub(twice.Neg(twice), big.NewInt(1))
	}
	return digits(twice)
}

// numbersTold are numbers as bytes.
func numbersTold(l ...int) []byte {
	var b []byte
	for _, n := range l {
		b = append(b, numberTold(n)...)
	}
	return b
}

// bodyTold is a command's body as bytes, letter by letter.
func bodyTold(c api.Cmd) []byte {
	var b []byte
	for _, letter := range mine(c.Op) {
		switch letter {
		case 'L':
			b = slices.Concat(b, digitsOf(len(c.L)), numbersTold(c.L...))
		case 'V':
			b = append(b, digitsOf(len(c.Verts))...)
			for _, v := range c.Verts {
				b = append(b, numbersTold(v.X, v.Y, v.Z, v.C.R, v.C.G, v.C.B, v.C.A, v.U, v.V)...)
			}
		default:
			b = append(b, numberTold(*placeOf(&c, letter))...)
		}
	}
	return b
}

// laid is a body as a command of a kind.
func laid(op int, in ...byte) []byte {
	return slices.Concat([]byte{byte(op)}, digitsOf(len(in)), in)
}

// told is a command as bytes.
func told(c api.Cmd) []byte {
	return laid(c.Op, bodyTold(c)...)
}

// allTold are commands as bytes.
func allTold(l ...api.Cmd) []byte {
	var b []byte
	for _, c := range l {
		b = append(b, told(c)...)
	}
	return b
}

// reader goes through bytes: where it is.
type reader struct {
	b  []byte
	at int
}

// count reads a count, by its digits.
func (r *reader) count() (*big.Int, api.Errno) {
	l := r.b[r.at:]
	n := slices.IndexFunc(l, func(x byte) bool { return x < 128 }) + 1
	switch {
	case len(l) >= 10 && (n == 0 || n > 10):
		return nil, api.ErrForm
	case n == 0:
		return nil, api.ErrShort
	case n == 10 && l[9] > 1, n > 1 && l[n-1] == 0:
		return nil, api.ErrForm
	}
	sum := new(big.Int)
	for i := n - 1; i >= 0; i-- {
		sum.Add(sum.Mul(sum, big.NewInt(128)), big.NewInt(int64(l[i])&127))
	}
	r.at += n
	return sum, api.OK
}

// number reads a number: half of an even count, or below 0.
func (r *reader) number() (int, bool) {
	n, e := r.count()
	if e != api.OK {
		return 0, false
	}
	if n.Bit(0) == 1 {
		n.Neg(n.Add(n, big.NewInt(1)))
	}
	return int(n.Quo(n, big.NewInt(2)).Int64()), true
}

// numbers reads as many numbers.
func (r *reader) numbers(n int) ([]int, bool) {
	var l []int
	for range n {
		x, is := r.number()
		if !is {
			return nil, false
		}
		l = append(l, x)
	}
	return l, true
}

// length reads how many elements a list has.
func (r *reader) length(limit int64) (int, api.Errno) {
	n, e := r.count()
	switch {
	case e != api.OK:
		return 0, api.ErrForm
	case n.Cmp(big.NewInt(limit)) > 0:
		return 0, api.ErrBig
	}
	return int(n.Int64()), api.OK
}

// field reads one of a command's own fields.
func (r *reader) field(c *api.Cmd, letter rune) api.Errno {
	is := true
	switch letter {
	case 'L':
		n, e := r.length(4096)
		if e != api.OK {
			return e
		}
		c.L, is = r.numbers(n)
	case 'V':
		n, e := r.length(1024)
		if e != api.OK {
			return e
		}
		for range n {
			var l []int
			if l, is = r.numbers(9); !is {
				break
			}
			c.Verts = append(c.Verts, api.Vertex{X: l[0], Y: l[1], Z: l[2], C: api.Color{R: l[3], G: l[4], B: l[5], A: l[6]}, U: l[7], V: l[8]})
		}
	default:
		*placeOf(c, letter), is = r.number()
	}
	if !is {
		return api.ErrForm
	}
	return api.OK
}

// body reads all bytes as a command's body.
func (r *reader) body(op int) Item {
	if op < 1 || op > 19 {
		return wrongly(api.ErrKind)
	}
	c := api.Cmd{Op: op}
	for _, letter := range mine(op) {
		if e := r.field(&c, letter); e != api.OK {
			return wrongly(e)
		}
	}
	if r.at < len(r.b) {
		return wrongly(api.ErrForm)
	}
	return Item{C: c}
}

// readTold is what the chapter reads bytes as, and the bytes of each item.
func readTold(b []byte) ([]Item, [][]byte) {
	var l []Item
	var of [][]byte
	for at := 0; at < len(b); {
		r := reader{b, at + 1}
		n, e := r.count()
		if e == api.OK && n.Cmp(big.NewInt(int64(len(b)-r.at))) > 0 {
			e = api.ErrShort
		}
		if e != api.OK {
			return append(l, wrongly(e)), append(of, b[at:])
		}
		end := r.at + int(n.Int64())
		in := reader{b[r.at:end], 0}
		l, of = append(l, in.body(int(b[at]))), append(of, b[at:end])
		at = end
	}
	return l, of
}

// holds asks all of the chapter that bytes can be asked: what they are read as, and how what has no error is told again.
func holds(t *testing.T, b []byte) bool {
	t.Helper()
	got := Decode(b)
	want, of := readTold(b)
	if !alike(got, want) {
		t.Errorf("read %v: %v, want %v", b, got, want)
		return false
	}
	var all []api.Cmd
	for i, item := range got {
		if item.E != api.OK {
			continue
		}
		all = append(all, item.C)
		if again, e := Encode([]api.Cmd{item.C}); !bytes.Equal(again, of[i]) || e != api.OK {
			t.Errorf("of %v, item %d is told again as %v, %d", b, i, again, e)
			return false
		}
	}
	if again, e := Encode(all); len(all) == len(got) && (!bytes.Equal(again, b) || e != api.OK) {
		t.Errorf("%v is told again as %v, %d", b, again, e)
		return false
	}
	return true
}

// P21.1: commands are laid.

func TestEncodeExample(t *testing.T) {
	if b, e := Encode([]api.Cmd{{Op: api.OpCull, A: 1}}); !bytes.Equal(b, []byte{11, 1, 2}) || e != api.OK {
		t.Error(b, e)
	}
}

// byHand are commands of each kind, all of whose fields are set, as bytes.
func byHand() [][]byte {
	return [][]byte{
		{1, 11, 2, 1, 2, 4, 6, 8, 10, 12, 14, 16, 18},
		{2, 4, 2, 2, 12, 14},
		{3, 6, 2, 4, 6, 2, 12, 14},
		{4, 1, 2},
		{5, 3, 2, 12, 14},
		{6, 4, 4, 6, 8, 10},
		{7, 4, 4, 6, 8, 10},
		{8, 2, 4, 6},
		{9, 3, 2, 12, 14},
		{10, 4, 4, 6, 8, 10},
		{11, 1, 4},
		{12, 3, 2, 4, 6},
		{13, 4, 4, 6, 8, 10},
		{14, 4, 2, 4, 6, 8},
		{15, 0},
		{16, 1, 4},
		{17, 1, 4},
		{18, 5, 2, 4, 6, 8, 10},
		{19, 0},
	}
}

func TestEncodeTold(t *testing.T) {
	for i, want := range byHand() {
		if b, e := Encode([]api.Cmd{full(i + 1)}); !bytes.Equal(b, want) || e != api.OK {
			t.Errorf("of %d: %v %d, want %v", i+1, b, e, want)
		}
	}
}

func TestEncodeAll(t *testing.T) {
	for i, c := range everything() {
		if b, e := Encode([]api.Cmd{c}); !bytes.Equal(b, told(c)) || e != api.OK {
			t.Errorf("command %d, of %d: %d bytes, %d", i, c.Op, len(b), e)
		}
	}
}

// numbersByHand are numbers, and their bytes.
func numbersByHand() []struct {
	n int
	b []byte
} {
	full := bytes.Repeat([]byte{255}, 9)
	return []struct {
		n int
		b []byte
	}{
		{0, []byte{0}}, {-1, []byte{1}}, {1, []byte{2}}, {-2, []byte{3}}, {2, []byte{4}},
		{63, []byte{126}}, {-64, []byte{127}}, {64, []byte{128, 1}}, {-65, []byte{129, 1}}, {65, []byte{130, 1}},
		{100, []byte{200, 1}}, {-100, []byte{199, 1}}, {127, []byte{254, 1}}, {-128, []byte{255, 1}}, {128, []byte{128, 2}}, {-129, []byte{129, 2}},
		{8191, []byte{254, 127}}, {-8192, []byte{255, 127}}, {8192, []byte{128, 128, 1}}, {-8193, []byte{129, 128, 1}},
		{1 << 20, []byte{128, 128, 128, 1}}, {1 << 30, []byte{128, 128, 128, 128, 8}},
		{1<<62 - 1, append([]byte{254}, append(bytes.Repeat([]byte{255}, 7), 127)...)},
		{-1 << 62, append(bytes.Repeat([]byte{255}, 8), 127)},
		{1 << 62, append(bytes.Repeat([]byte{128}, 9), 1)},
		{most, append([]byte{254}, append(full[:8:8], 1)...)},
		{least, append(full[:9:9], 1)},
	}
}

func TestEncodeNumbers(t *testing.T) {
	for _, c := range numbersByHand() {
		want := append([]byte{11, byte(len(c.b))}, c.b...)
		if b, e := Encode([]api.Cmd{{Op: api.OpCull, A: c.n}}); !bytes.Equal(b, want) || e != api.OK {
			t.Errorf("of %d: %v %d, want %v", c.n, b, e, want)
		}
	}
}

func TestEncodeMoreBytes(t *testing.T) {
	for k := 1; k <= 9; k++ {
		first := 1 << (7*k - 1)
		for n, size := range map[int]int{first - 1: k, -first: k, first: k + 1, -first - 1: k + 1} {
			b, e := Encode([]api.Cmd{{Op: api.OpCull, A: n}})
			if len(b) != 2+size || int(b[1]) != size || e != api.OK {
				t.Errorf("of %d: %v %d, want %d bytes", n, b, e, size)
			}
		}
	}
}

func TestEncodeEachField(t *testing.T) {
	for op := 1; op <= 19; op++ {
		for _, letter := range "HABCD" {
			for _, n := range ends() {
				c := api.Cmd{Op: op}
				*placeOf(&c, letter) = n
				if b, e := Encode([]api.Cmd{c}); !bytes.Equal(b, told(c)) || e != api.OK {
					t.Errorf("of %d with %c alone, %d: %v %d", op, letter, n, b, e)
				}
			}
		}
	}
}

// vertexPlaces are where a vertex's numbers stand, in the order in which they are told.
func vertexPlaces(v *api.Vertex) []*int {
	return []*int{&v.X, &v.Y, &v.Z, &v.C.R, &v.C.G, &v.C.B, &v.C.A, &v.U, &v.V}
}

func TestEncodeEachOfAVertex(t *testing.T) {
	for i := range 9 {
		for _, n := range []int{1, -1, 64, most, least} {
			var v api.Vertex
			*vertexPlaces(&v)[i] = n
			in := append([]byte{0, 1}, bytes.Repeat([]byte{0}, i)...)
			in = append(append(in, numberTold(n)...), bytes.Repeat([]byte{0}, 8-i)...)
			if b, e := Encode([]api.Cmd{{Op: api.OpVerts, Verts: []api.Vertex{v}}}); !bytes.Equal(b, laid(1, in...)) || e != api.OK {
				t.Errorf("number %d, %d: %v %d", i, n, b, e)
			}
		}
	}
}

func TestEncodeBehindEachOther(t *testing.T) {
	if b, e := Encode(nil); len(b) != 0 || e != api.OK {
		t.Error(b, e)
	}
	if b, e := Encode([]api.Cmd{}); len(b) != 0 || e != api.OK {
		t.Error(b, e)
	}
	l := []api.Cmd{{Op: 15}, {Op: 11, A: 1}, {Op: 15}, {Op: 16, A: 100}, {Op: 19}, {Op: 11, A: 1}}
	if b, e := Encode(l); !bytes.Equal(b, []byte{15, 0, 11, 1, 2, 15, 0, 16, 2, 200, 1, 19, 0, 11, 1, 2}) || e != api.OK {
		t.Error(b, e)
	}
	all := everything()
	for n := range len(all) + 1 {
		for _, l := range [][]api.Cmd{all[:n], all[n:]} {
			if len(l) > 40 && n%8 != 0 {
				continue
			}
			if b, e := Encode(l); !bytes.Equal(b, allTold(l...)) || e != api.OK {
				t.Errorf("of %d commands: %d bytes, %d", len(l), len(b), e)
			}
		}
	}
}

func TestEncodeMany(t *testing.T) {
	var l []api.Cmd
	for i := range 5000 {
		c := full(i%19 + 1)
		c.A = i
		l = append(l, c)
	}
	if b, e := Encode(l); !bytes.Equal(b, allTold(l...)) || e != api.OK {
		t.Errorf("%d bytes, %d", len(b), e)
	}
}

// withNumbers are commands of each kind that has a list of numbers, with as many.
func withNumbers(n int) []api.Cmd {
	l := counted(n)
	return []api.Cmd{{Op: api.OpIndex, H: 1, L: l}, {Op: api.OpTex, H: 1, A: 2, B: 3, L: l}, {Op: api.OpMat, L: l}, {Op: api.OpSten, L: l}}
}

// sizes are how many elements a list may have, at its ends and in between.
func sizes(limit int) []int {
	return []int{0, 1, 2, 3, 7, 16, 63, 64, 126, 127, 128, 129, 255, 256, 1000, 1023, limit - 1, limit}
}

func TestEncodeLists(t *testing.T) {
	for _, n := range sizes(4096) {
		for _, c := range withNumbers(n) {
			b, e := Encode([]api.Cmd{c})
			if !bytes.Equal(b, told(c)) || e != api.OK {
				t.Errorf("of %d, %d numbers: %d bytes, %d", c.Op, n, len(b), e)
			}
		}
	}
	for _, n := range sizes(1024) {
		c := api.Cmd{Op: api.OpVerts, H: 1, Verts: corners(n)}
		if b, e := Encode([]api.Cmd{c}); !bytes.Equal(b, told(c)) || e != api.OK {
			t.Errorf("of %d vertices: %d bytes, %d", n, len(b), e)
		}
	}
}

func TestEncodeBodies(t *testing.T) {
	for _, c := range []struct {
		n    int
		head []byte
	}{
		{0, []byte{5, 1, 0}},
		{1, []byte{5, 2, 1}},
		{125, []byte{5, 126, 125}},
		{126, []byte{5, 127, 126}},
		{127, []byte{5, 128, 1, 127}},
		{128, []byte{5, 130, 1, 128, 1}},
		{254, []byte{5, 128, 2, 254, 1}},
		{4096, []byte{5, 130, 32, 128, 32}},
	} {
		want := append(c.head, bytes.Repeat([]byte{4}, c.n)...)
		if b, e := Encode([]api.Cmd{{Op: api.OpMat, L: slices.Repeat([]int{2}, c.n)}}); !bytes.Equal(b, want) || e != api.OK {
			t.Errorf("of %d numbers: %d bytes, %d", c.n, len(b), e)
		}
	}
	long := api.Cmd{Op: api.OpMat, L: slices.Repeat([]int{least}, 4096)}
	want := slices.Concat([]byte{5, 130, 192, 2, 128, 32}, bytes.Repeat(numberTold(least), 4096))
	if b, e := Encode([]api.Cmd{long}); !bytes.Equal(b, want) || e != api.OK {
		t.Errorf("of long numbers: %d bytes, %d", len(b), e)
	}
}

func TestEncodeKind(t *testing.T) {
	for _, op := range nothing() {
		for _, c := range []api.Cmd{{Op: op}, full(op), {Op: op, L: counted(4097), Verts: corners(1025)}} {
			if b, e := Encode([]api.Cmd{c}); len(b) != 0 || e != api.ErrKind {
				t.Errorf("of %d: %v %d", op, b, e)
			}
		}
	}
}

// tooBig are commands that have more than may be, of their own fields.
func tooBig() []api.Cmd {
	var l []api.Cmd
	for _, n := range []int{4097, 4098, 8192, 1 << 16, 1<<16 + 1} {
		l = append(l, withNumbers(n)...)
	}
	for _, n := range []int{1025, 1026, 4096, 4097, 1 << 16} {
		l = append(l, api.Cmd{Op: api.OpVerts, Verts: make([]api.Vertex, n)})
	}
	return append(l, api.Cmd{Op: api.OpVerts, L: counted(4097), Verts: corners(1025)}, api.Cmd{Op: api.OpSten, L: counted(4097), Verts: corners(1025)})
}

func TestEncodeBig(t *testing.T) {
	for _, c := range tooBig() {
		if b, e := Encode([]api.Cmd{c}); len(b) != 0 || e != api.ErrBig {
			t.Errorf("of %d, %d numbers, %d vertices: %d bytes, %d", c.Op, len(c.L), len(c.Verts), len(b), e)
		}
	}
}

func TestEncodeBigOfOthers(t *testing.T) {
	for op := 1; op <= 19; op++ {
		c := full(op)
		if !has(op, 'L') {
			c.L = counted(4097)
		}
		if !has(op, 'V') {
			c.Verts = corners(1025)
		}
		if b, e := Encode([]api.Cmd{c}); !bytes.Equal(b, byHand()[op-1]) || e != api.OK {
			t.Errorf("of %d: %d bytes, %d", op, len(b), e)
		}
	}
}

func TestEncodeFirstError(t *testing.T) {
	right := []api.Cmd{{Op: 11, A: 1}, {Op: 15}, full(1), full(2), full(18)}
	wrong := []struct {
		c api.Cmd
		e api.Errno
	}{{api.Cmd{}, api.ErrKind}, {api.Cmd{Op: 20}, api.ErrKind}, {api.Cmd{Op: 5, L: counted(4097)}, api.ErrBig}, {api.Cmd{Op: 1, Verts: corners(1025)}, api.ErrBig}}
	for _, w := range wrong {
		for at := range len(right) + 1 {
			if b, e := Encode(slices.Insert(slices.Clone(right), at, w.c)); len(b) != 0 || e != w.e {
				t.Errorf("%d at %d: %v %d, want %d", w.c.Op, at, b, e, w.e)
			}
		}
		for _, other := range wrong {
			for _, l := range [][]api.Cmd{{w.c, other.c}, {right[0], w.c, other.c}, {w.c, right[0], other.c}, {right[0], w.c, right[1], other.c, right[2]}} {
				if b, e := Encode(l); len(b) != 0 || e != w.e {
					t.Errorf("%d ahead of %d: %v %d, want %d", w.c.Op, other.c.Op, b, e, w.e)
				}
			}
		}
	}
}

func TestEncodeLeavesIt(t *testing.T) {
	var l []api.Cmd
	for op := -1; op <= 21; op++ {
		c := full(op)
		c.L, c.Verts = counted(6)[:3], corners(5)[:2]
		l = append(l, c)
	}
	for from, to := range []int{0, 3, 10, len(l) - 2, len(l)} {
		Encode(l[from:to])
		for i, c := range l {
			was := full(i - 1)
			was.L, was.Verts = counted(3), corners(2)
			if !same(c, was) || !slices.Equal(c.L[:6], counted(6)) || !slices.Equal(c.Verts[:5], corners(5)) {
				t.Errorf("of %d: %v", c.Op, c)
			}
		}
	}
}

func TestEncodeIsNew(t *testing.T) {
	l := everything()
	first, _ := Encode(l)
	second, _ := Encode(l)
	for i := range first[:cap(first)] {
		first[:cap(first)][i] = 77
	}
	if !bytes.Equal(second, allTold(l...)) {
		t.Error("two answers share memory")
	}
	for _, c := range l {
		spoil(c)
	}
	if !bytes.Equal(second, allTold(everything()...)) {
		t.Error("an answer shares memory with what was handed in")
	}
}

// P21.2: bytes are read.

func TestDecodeExample(t *testing.T) {
	if l := Decode([]byte{11, 1, 2}); !alike(l, []Item{{C: api.Cmd{Op: api.OpCull, A: 1}}}) {
		t.Error(l)
	}
}

func TestDecodeNone(t *testing.T) {
	for _, b := range [][]byte{nil, {}, []byte{11, 1, 2}[:0]} {
		if l := Decode(b); len(l) != 0 {
			t.Error(l)
		}
	}
}

func TestDecodeTold(t *testing.T) {
	for i, b := range byHand() {
		if l := Decode(b); !alike(l, rightly(full(i+1))) {
			t.Errorf("of %v: %v", b, l)
		}
	}
	if l := Decode(slices.Concat(byHand()...)); len(l) != 19 || !alike(l[10:12], rightly(full(11), full(12))) {
		t.Error(l)
	}
}

func TestDecodeNumbers(t *testing.T) {
	for _, c := range numbersByHand() {
		if l := Decode(laid(17, c.b...)); !alike(l, rightly(api.Cmd{Op: api.OpWait, A: c.n})) {
			t.Errorf("of %v: %v, want %d", c.b, l, c.n)
		}
	}
}

// long is the greatest count there is, as bytes.
func long() []byte {
	return append(bytes.Repeat([]byte{255}, 9), 1)
}

// badCounts are counts of forms that may not be.
func badCounts() [][]byte {
	l := [][]byte{{128, 0}, {129, 0}, {130, 0}, {255, 0}, {128, 128, 0}, {255, 255, 0}}
	for n := 1; n <= 9; n++ {
		for _, x := range []byte{128, 129, 255} {
			l = append(l, append(bytes.Repeat([]byte{x}, n), 0))
		}
	}
	for _, x := range []byte{128, 129, 200, 255} {
		for _, tenth := range []byte{0, 2, 3, 4, 16, 64, 126, 127, 128, 129, 254, 255} {
			l = append(l, append(bytes.Repeat([]byte{x}, 9), tenth))
		}
	}
	return l
}

// shortCounts are counts that end too soon.
func shortCounts() [][]byte {
	l := [][]byte{nil}
	for n := 1; n <= 9; n++ {
		for _, x := range []byte{128, 129, 255} {
			l = append(l, bytes.Repeat([]byte{x}, n))
		}
	}
	return l
}

// greatCounts are counts that are above all limits and all bytes that are left, many of which would not be if their higher bits were lost.
func greatCounts() [][]byte {
	l := [][]byte{long()}
	for k := 16; k < 64; k++ {
		for add := range int64(4) {
			n := new(big.Int).Lsh(big.NewInt(1), uint(k))
			l = append(l, digits(n.Add(n, big.NewInt(add))))
		}
	}
	return l
}

// ahead are bytes that are read ahead of others, and what they are read as.
func ahead() ([]byte, []Item) {
	l := []api.Cmd{{Op: 11, A: 1}, {Op: 15}, full(2), full(1)}
	return allTold(l...), rightly(l...)
}

// stops asks that bytes stand as an error behind which nothing is read, whatever is ahead of them.
func stops(t *testing.T, b []byte, e api.Errno) {
	t.Helper()
	if l := Decode(b); !alike(l, []Item{wrongly(e)}) {
		t.Errorf("of %v: %v, want %d", b, l, e)
	}
	before, items := ahead()
	if l := Decode(slices.Concat(before, b)); !alike(l, append(items, wrongly(e))) {
		t.Errorf("of %v, behind others: %v, want %d", b, l, e)
	}
}

// goesOn asks that bytes stand as one error, and that what is behind them is read.
func goesOn(t *testing.T, b []byte, e api.Errno) {
	t.Helper()
	stops(t, b, e)
	behind, items := ahead()
	if l := Decode(slices.Concat(b, behind)); !alike(l, append([]Item{wrongly(e)}, items...)) {
		t.Errorf("of %v, ahead of others: %v, want %d", b, l, e)
	}
	if l := Decode(slices.Concat(b, b, behind, b)); !alike(l, append(append([]Item{wrongly(e), wrongly(e)}, items...), wrongly(e))) {
		t.Errorf("of %v, twice, and behind others: %v, want %d", b, l, e)
	}
}

func TestDecodeCountShort(t *testing.T) {
	for op := range 256 {
		for _, b := range shortCounts() {
			stops(t, append([]byte{byte(op)}, b...), api.ErrShort)
		}
	}
}

func TestDecodeCountForm(t *testing.T) {
	more, _ := ahead()
	for _, op := range []int{0, 1, 2, 5, 11, 15, 19, 20, 255} {
		for _, b := range badCounts() {
			stops(t, append([]byte{byte(op)}, b...), api.ErrForm)
			stops(t, slices.Concat([]byte{byte(op)}, b, more), api.ErrForm)
		}
	}
}

func TestDecodeFewerLeft(t *testing.T) {
	for op := range 256 {
		for n := 1; n < 200; n += 1 + n/8 {
			for left := 0; left < n; left += 1 + left/2 {
				stops(t, slices.Concat([]byte{byte(op)}, digitsOf(n), make([]byte, left)), api.ErrShort)
			}
		}
	}
	more, _ := ahead()
	for _, op := range []int{0, 1, 5, 11, 15, 19, 20, 255} {
		for _, b := range greatCounts() {
			stops(t, append([]byte{byte(op)}, b...), api.ErrShort)
			stops(t, slices.Concat([]byte{byte(op)}, b, more), api.ErrShort)
		}
	}
	whole := told(api.Cmd{Op: api.OpMat, L: counted(4096)})
	for _, cut := range []int{1, 2, 100, len(whole) - 4, len(whole) - 3} {
		stops(t, whole[:len(whole)-cut], api.ErrShort)
	}
}

func TestDecodeTenthByte(t *testing.T) {
	for n, b := range map[int][]byte{
		least:   long(),
		most:    append([]byte{254}, long()[1:]...),
		1 << 62: append(bytes.Repeat([]byte{128}, 9), 1),
	} {
		if l := Decode(laid(11, b...)); !alike(l, rightly(api.Cmd{Op: 11, A: n})) {
			t.Errorf("of %v: %v, want %d", b, l, n)
		}
	}
}

func TestDecodeKind(t *testing.T) {
	bodies := [][]byte{nil, {0}, {2}, {128, 0}, {128}, long(), {5, 0}, bytes.Repeat([]byte{255}, 300)}
	for op := range 256 {
		if op >= 1 && op <= 19 {
			continue
		}
		for _, in := range append(bodies, byHand()...) {
			goesOn(t, laid(op, in...), api.ErrKind)
		}
	}
}

// fieldsTold are a command's own numbers as bytes, one behind the other, with the counts of its lists.
func fieldsTold(c api.Cmd) [][]byte {
	var l [][]byte
	for _, letter := range mine(c.Op) {
		switch letter {
		case 'L':
			l = append(l, digitsOf(len(c.L)))
			for _, n := range c.L {
				l = append(l, numberTold(n))
			}
		case 'V':
			l = append(l, digitsOf(len(c.Verts)))
			for _, v := range c.Verts {
				for _, at := range vertexPlaces(&v) {
					l = append(l, numberTold(*at))
				}
			}
		default:
			l = append(l, numberTold(*placeOf(&c, letter)))
		}
	}
	return l
}

func TestDecodeEndsTooSoon(t *testing.T) {
	for op := 1; op <= 19; op++ {
		for _, c := range fulls(op)[:7] {
			parts := fieldsTold(c)
			for n := range parts {
				for _, b := range shortCounts() {
					goesOn(t, laid(op, slices.Concat(slices.Concat(parts[:n]...), b)...), api.ErrForm)
				}
			}
		}
	}
}

func TestDecodeFormOfNumbers(t *testing.T) {
	for op := 1; op <= 19; op++ {
		c := full(op)
		parts := fieldsTold(c)
		for n := range parts {
			for _, b := range badCounts() {
				in := slices.Concat(slices.Concat(parts[:n]...), b)
				goesOn(t, laid(op, in...), api.ErrForm)
				goesOn(t, laid(op, slices.Concat(in, slices.Concat(parts[n+1:]...))...), api.ErrForm)
			}
		}
	}
}

func TestDecodeLeft(t *testing.T) {
	for op := 1; op <= 19; op++ {
		for _, c := range fulls(op) {
			for _, more := range [][]byte{{0}, {1}, {2}, {255}, {0, 0}, {128, 0}, told(c)} {
				goesOn(t, laid(op, append(bodyTold(c), more...)...), api.ErrForm)
			}
		}
	}
}

func TestDecodeBig(t *testing.T) {
	many := [][]byte{{129, 32}, digitsOf(4097), digitsOf(4098), digitsOf(8191), digitsOf(8192), digitsOf(1 << 14), digitsOf(1 << 16)}
	for _, n := range append(many, greatCounts()...) {
		for _, op := range []int{1, 2, 3, 5, 9} {
			front := bytes.Repeat([]byte{2}, strings.IndexAny(mine(op), "LV"))
			for _, behind := range [][]byte{nil, {0}, {128}, {128, 0}, long(), make([]byte, 500)} {
				goesOn(t, laid(op, slices.Concat(front, n, behind)...), api.ErrBig)
			}
		}
	}
	for _, n := range []int{1025, 1026, 2047, 2048, 4095, 4096} {
		goesOn(t, laid(1, append([]byte{2}, digitsOf(n)...)...), api.ErrBig)
		goesOn(t, laid(1, slices.Concat([]byte{2}, digitsOf(n), make([]byte, 9*n))...), api.ErrBig)
	}
	for _, op := range []int{2, 3, 5, 9} {
		front := bytes.Repeat([]byte{2}, strings.IndexAny(mine(op), "L"))
		goesOn(t, laid(op, slices.Concat(front, digitsOf(4097), make([]byte, 4097))...), api.ErrBig)
		goesOn(t, laid(op, slices.Concat(front, digitsOf(4096), make([]byte, 4095))...), api.ErrForm)
	}
}

func TestDecodeBigBehindForm(t *testing.T) {
	for _, op := range []int{1, 2, 3} {
		fields := strings.IndexAny(mine(op), "LV")
		for at := range fields {
			for _, b := range badCounts() {
				in := slices.Concat(bytes.Repeat([]byte{2}, at), b, bytes.Repeat([]byte{2}, fields-at-1))
				goesOn(t, laid(op, append(in, 129, 32)...), api.ErrForm)
				goesOn(t, laid(op, append(in, long()...)...), api.ErrForm)
			}
		}
	}
}

func TestDecodeBetween(t *testing.T) {
	b := slices.Concat([]byte{11, 1, 2}, []byte{0, 1, 7}, []byte{11, 0}, []byte{15, 0}, []byte{5, 2, 129, 32}, []byte{20, 0}, []byte{19, 1, 0}, []byte{16, 1, 1}, []byte{11, 129, 0, 2})
	want := []Item{{C: api.Cmd{Op: 11, A: 1}}, wrongly(api.ErrKind), wrongly(api.ErrForm), {C: api.Cmd{Op: 15}}, wrongly(api.ErrBig), wrongly(api.ErrKind), wrongly(api.ErrForm), {C: api.Cmd{Op: 16, A: -1}}, wrongly(api.ErrForm)}
	if l := Decode(b); !alike(l, want) {
		t.Error(l)
	}
}

func TestDecodeCut(t *testing.T) {
	var l []api.Cmd
	at := map[int]int{0: 0}
	for op := 1; op <= 19; op++ {
		for _, c := range fulls(op)[:7] {
			l = append(l, c)
			at[len(allTold(l...))] = len(l)
		}
	}
	b, items, n := allTold(l...), rightly(l...), 0
	for end := range len(b) + 1 {
		want := items[:n:n]
		if k, is := at[end]; is {
			n, want = k, items[:k]
		} else {
			want = append(want, wrongly(api.ErrShort))
		}
		if l := Decode(b[:end]); !alike(l, want) {
			t.Fatalf("%d bytes: %d items, want %d", end, len(l), len(want))
		}
	}
}

func TestDecodeFewBytes(t *testing.T) {
	for a := range 256 {
		if !holds(t, []byte{byte(a)}) {
			return
		}
		for b := range 256 {
			if !holds(t, []byte{byte(a), byte(b)}) {
				return
			}
			for _, c := range []byte{0, 1, 2, 127, 128, 255} {
				if !holds(t, []byte{byte(a), byte(b), c}) {
					return
				}
			}
		}
	}
}

func TestDecodeAnyBytes(t *testing.T) {
	roll := dice(21)
	often := []byte{0, 1, 2, 3, 5, 9, 11, 15, 16, 19, 20, 32, 127, 128, 129, 255}
	for range 60000 {
		b := make([]byte, roll(24))
		for i := range b {
			b[i] = byte(roll(256))
			if roll(4) > 0 {
				b[i] = often[roll(len(often))]
			}
		}
		if !holds(t, b) {
			return
		}
	}
}

// bent are bytes with one or two changes: a byte is another one, is gone, comes twice, or all behind it is gone.
func bent(roll func(int) int, b []byte) []byte {
	b = slices.Clone(b)
	for range roll(2) + 1 {
		if len(b) == 0 {
			return b
		}
		at := roll(len(b))
		switch roll(5) {
		case 0:
			b[at] = byte(roll(256))
		case 1:
			b[at] ^= 1 << roll(8)
		case 2:
			b = slices.Delete(b, at, at+1)
		case 3:
			b = slices.Insert(b, at, b[at])
		case 4:
			b = b[:at]
		}
	}
	return b
}

func TestDecodeBent(t *testing.T) {
	roll := dice(212)
	for range 20000 {
		if b := bent(roll, allTold(anyCommands(roll, 6)...)); !holds(t, b) {
			return
		}
	}
}

func TestDecodeLeavesIt(t *testing.T) {
	whole := slices.Concat(append(byHand(), []byte{0, 0, 11, 0, 5, 2, 129, 32, 1, 200})...)
	b := slices.Clone(whole)
	for end := range len(b) + 1 {
		Decode(b[:end])
		if !bytes.Equal(b, whole) {
			t.Fatal(end, b)
		}
	}
}

func TestDecodeIsNew(t *testing.T) {
	all := append(everything(), everything()...)
	b := allTold(all...)
	l, other := Decode(b), Decode(b)
	clear(b)
	if !alike(l, rightly(all...)) {
		t.Fatal("an answer shares memory with what was handed in")
	}
	for i := range l {
		spoil(l[i].C)
		if !alike(l[i+1:], rightly(all[i+1:]...)) {
			t.Fatalf("item %d shares memory with one behind it", i)
		}
	}
	if !alike(other, rightly(all...)) {
		t.Error("two answers share memory")
	}
}

// P21.3: there and back again.

func TestThereAndBack(t *testing.T) {
	all := everything()
	for _, c := range all {
		b, e := Encode([]api.Cmd{c})
		if l := Decode(b); !alike(l, rightly(c)) || e != api.OK {
			t.Errorf("of %d: %v %d", c.Op, l, e)
		}
	}
	for _, l := range [][]api.Cmd{nil, all[:1], all[:7], all} {
		b, e := Encode(l)
		if back := Decode(b); !alike(back, rightly(l...)) || e != api.OK {
			t.Errorf("of %d commands: %d, %d", len(l), len(back), e)
		}
	}
}

func TestThereAndBackOfNumbers(t *testing.T) {
	l := ends()
	b, e := Encode([]api.Cmd{{Op: api.OpIndex, H: 3, L: l}})
	if back := Decode(b); !alike(back, rightly(api.Cmd{Op: api.OpIndex, H: 3, L: l})) || e != api.OK {
		t.Error(back, e)
	}
	for _, n := range l {
		var v api.Vertex
		for _, at := range vertexPlaces(&v) {
			*at = n
		}
		c := []api.Cmd{{Op: 18, H: n, A: n, B: n, C: n, D: n}, {Op: 1, H: n, Verts: []api.Vertex{v, {}, v}}}
		b, e := Encode(c)
		if back := Decode(b); !alike(back, rightly(c...)) || e != api.OK {
			t.Errorf("of %d: %v %d", n, back, e)
		}
	}
}

func TestThereAndBackOfLists(t *testing.T) {
	for _, n := range sizes(4096) {
		for _, c := range withNumbers(n) {
			b, e := Encode([]api.Cmd{c, c})
			if back := Decode(b); !alike(back, rightly(c, c)) || e != api.OK {
				t.Errorf("of %d, %d numbers: %d items, %d", c.Op, n, len(back), e)
			}
		}
	}
	for _, n := range sizes(1024) {
		c := api.Cmd{Op: api.OpVerts, H: 1, Verts: corners(n)}
		b, e := Encode([]api.Cmd{c, c})
		if back := Decode(b); !alike(back, rightly(c, c)) || e != api.OK {
			t.Errorf("of %d vertices: %d items, %d", n, len(back), e)
		}
	}
}

func TestThereAndBackOfMany(t *testing.T) {
	roll := dice(213)
	for range 5000 {
		l := anyCommands(roll, 12)
		b, e := Encode(l)
		if !bytes.Equal(b, allTold(l...)) || e != api.OK {
			t.Fatalf("of %v: %v %d", l, b, e)
		}
		if back := Decode(b); !alike(back, rightly(l...)) {
			t.Fatalf("of %v: %v", l, back)
		}
		if !holds(t, b) {
			return
		}
	}
	var l []api.Cmd
	for i := range 5000 {
		l = append(l, anyCommand(roll, i%19+1))
	}
	b, e := Encode(l)
	if back := Decode(b); !alike(back, rightly(l...)) || e != api.OK {
		t.Errorf("%d items, %d", len(back), e)
	}
}

func TestBackAndThere(t *testing.T) {
	for _, b := range append(byHand(), slices.Concat(byHand()...), []byte{11, 1, 2}, laid(17, long()...), nil) {
		holds(t, b)
		var l []api.Cmd
		for _, item := range Decode(b) {
			l = append(l, item.C)
		}
		if again, e := Encode(l); !bytes.Equal(again, b) || e != api.OK {
			t.Errorf("of %v: %v %d", b, again, e)
		}
	}
}
