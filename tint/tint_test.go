package tint

import (
	"math"
	"testing"

	"tempera/api"
)

const most, least = math.MaxInt, math.MinInt

// color is four numbers as a colour.
func color(l [4]int) api.Color { return api.Color{R: l[0], G: l[1], B: l[2], A: l[3]} }

// with is a colour with one channel set, told by its number.
func with(c api.Color, at, n int) api.Color {
	l := [4]int{c.R, c.G, c.B, c.A}
	l[at] = n
	return color(l)
}

// bases are right colours of which one channel is then made another one.
func bases() []api.Color {
	return []api.Color{{}, color([4]int{255, 255, 255, 255}), color([4]int{1, 2, 3, 4}), color([4]int{128, 64, 32, 16})}
}

// wrongChannels are no channels, some of which would be one if their higher bits were lost.
func wrongChannels() []int {
	return []int{-1, 256, -2, 257, -255, -256, 510, 511, 512, 1 << 16, -1 << 16, 1 << 32, 1<<32 + 7, -1 << 32, 1 << 62, least, least + 1, least + 255, most - 1, most}
}

// wrongColors are colours of which just one channel is wrong, each channel in turn, and some of which several are.
func wrongColors() []api.Color {
	l := []api.Color{
		color([4]int{-1, -1, -1, -1}), color([4]int{256, 256, 256, 256}), color([4]int{-1, 256, 0, 0}), color([4]int{0, 0, 256, -1}),
		// Channels that would make up for each other if they were only added.
		color([4]int{1, -256, 0, 0}), color([4]int{0, 0, -1, 256}), color([4]int{-1, 1, 0, 0}),
		color([4]int{least, least, least, least}), color([4]int{most, most, most, most}),
	}
	for _, c := range bases() {
		for at := range 4 {
			for _, n := range wrongChannels() {
				l = append(l, with(c, at, n))
			}
		}
	}
	return l
}

// rule tells numbers from 0 to end, by a rule that is the same each time.
func rule(seed uint64) func(end int) int {
	return func(end int) int {
		seed = seed*6364136223846793005 + 1442695040888963407
		return int(seed >> 20 % uint64(end+1))
	}
}

func colorBy(next func(int) int) api.Color {
	return color([4]int{next(255), next(255), next(255), next(255)})
}

// P6.1

func TestRightColors(t *testing.T) {
	for _, c := range bases() {
		for at := range 4 {
			for n := range 256 {
				if c := with(c, at, n); !Right(c) {
					t.Errorf("Right(%v) is false", c)
				}
			}
		}
	}
}

func TestColorsThatAreNotRight(t *testing.T) {
	for _, c := range wrongColors() {
		if Right(c) {
			t.Errorf("Right(%v) is true", c)
		}
	}
}

func TestPackTold(t *testing.T) {
	for _, c := range []struct {
		c    api.Color
		want int
	}{
		{api.Color{R: 1, G: 2, B: 3, A: 4}, 0x01020304},
		{api.Color{}, 0},
		{api.Color{R: 255, G: 255, B: 255, A: 255}, 4294967295},
		{api.Color{R: 255}, 4278190080}, {api.Color{G: 255}, 16711680}, {api.Color{B: 255}, 65280}, {api.Color{A: 255}, 255},
		{api.Color{R: 1}, 16777216}, {api.Color{G: 1}, 65536}, {api.Color{B: 1}, 256}, {api.Color{A: 1}, 1},
		{api.Color{R: 128}, 1 << 31}, {api.Color{R: 255, A: 128}, 0xff000080},
		{api.Color{R: 0xde, G: 0xad, B: 0xbe, A: 0xef}, 0xdeadbeef},
	} {
		if got, e := Pack(c.c); got != c.want || e != api.OK {
			t.Errorf("Pack(%v) is %#x, %d, want %#x", c.c, got, e, c.want)
		}
		if got, e := Unpack(c.want); got != c.c || e != api.OK {
			t.Errorf("Unpack(%#x) is %v, %d, want %v", c.want, got, e, c.c)
		}
	}
}

func TestPackEachChannel(t *testing.T) {
	places := [4]int{16777216, 65536, 256, 1}
	for at, place := range places {
		for n := range 256 {
			c := with(api.Color{}, at, n)
			if got, e := Pack(c); got != n*place || e != api.OK {
				t.Errorf("Pack(%v) is %d, %d, want %d", c, got, e, n*place)
			}
			if got, e := Unpack(n * place); got != c || e != api.OK {
				t.Errorf("Unpack(%d) is %v, %d, want %v", n*place, got, e, c)
			}
		}
	}
}

func TestPackThereAndBack(t *testing.T) {
	next := rule(1)
	for range 5000 {
		c := colorBy(next)
		n, e := Pack(c)
		if want := ((c.R*256+c.G)*256+c.B)*256 + c.A; n != want || e != api.OK {
			t.Fatalf("Pack(%v) is %d, %d, want %d", c, n, e, want)
		}
		if back, e := Unpack(n); back != c || e != api.OK {
			t.Fatalf("Unpack(%d) is %v, %d, want %v", n, back, e, c)
		}
	}
}

func TestUnpackThereAndBack(t *testing.T) {
	next := rule(2)
	l := []int{0, 1, 255, 256, 65535, 65536, 1<<24 - 1, 1 << 24, 1<<31 - 1, 1 << 31, 1<<32 - 2, 1<<32 - 1}
	for range 5000 {
		l = append(l, next(1<<32-1))
	}
	for _, n := range l {
		c, e := Unpack(n)
		if !Right(c) || e != api.OK {
			t.Fatalf("Unpack(%d) is %v, %d", n, c, e)
		}
		if back, e := Pack(c); back != n || e != api.OK {
			t.Fatalf("Pack(%v) is %d, %d, want %d", c, back, e, n)
		}
	}
}

func TestPackOfColorsThatAreNotRight(t *testing.T) {
	for _, c := range wrongColors() {
		if n, e := Pack(c); n != 0 || e != api.ErrRange {
			t.Errorf("Pack(%v) is %d, %d, want ErrRange", c, n, e)
		}
	}
}

func TestUnpackOfWhatIsNotPacked(t *testing.T) {
	for _, n := range []int{-1, 1 << 32, -2, 1<<32 + 1, -255, -256, -1 << 31, -1<<32 + 1, -1 << 32, 1 << 33, 1 << 40, 1 << 62, least, least + 1, least + 0x01020304, most - 1, most} {
		if c, e := Unpack(n); c != (api.Color{}) || e != api.ErrRange {
			t.Errorf("Unpack(%d) is %v, %d, want ErrRange", n, c, e)
		}
	}
}

// P6.2

func TestTimesTold(t *testing.T) {
	for _, c := range []struct {
		name    string
		a, b    [4]int
		product [4]int
	}{
		{"0 leaves nothing", [4]int{0, 0, 0, 0}, [4]int{0, 1, 254, 255}, [4]int{0, 0, 0, 0}},
		{"255 leaves what is", [4]int{255, 255, 255, 255}, [4]int{0, 1, 254, 255}, [4]int{0, 1, 254, 255}},
		{"1 times the ends", [4]int{1, 1, 1, 1}, [4]int{0, 1, 254, 255}, [4]int{0, 0, 1, 1}},
		{"254 times the ends", [4]int{254, 254, 254, 254}, [4]int{0, 1, 254, 255}, [4]int{0, 1, 253, 254}},
		{"127 does not reach, 128 does", [4]int{1, 1, 127, 128}, [4]int{127, 128, 1, 1}, [4]int{0, 1, 0, 1}},
		{"just short of the next", [4]int{2, 2, 2, 254}, [4]int{63, 64, 191, 127}, [4]int{0, 1, 1, 127}},
		{"near the halves", [4]int{127, 127, 128, 128}, [4]int{127, 128, 128, 129}, [4]int{63, 64, 64, 65}},
		{"channels stay apart", [4]int{255, 0, 128, 10}, [4]int{7, 9, 100, 200}, [4]int{7, 0, 50, 8}},
	} {
		if got, e := Times(color(c.a), color(c.b)); got != color(c.product) || e != api.OK {
			t.Errorf("%s: Times(%v, %v) is %v, %d, want %v", c.name, c.a, c.b, got, e, c.product)
		}
	}
}

// The product of any two channels, by 255: with 127 ahead of cutting off, it is the nearest number, and 255 being odd there is just one.
func TestTimesOfAllChannels(t *testing.T) {
	for a := range 256 {
		for b := range 256 {
			one, other := color([4]int{a, b, 255 - a, b}), color([4]int{b, a, b, 255 - a})
			got, e := Times(one, other)
			if e != api.OK {
				t.Fatalf("Times(%v, %v) has the error %d", one, other, e)
			}
			for _, c := range [][3]int{{a, b, got.R}, {b, a, got.G}, {255 - a, b, got.B}, {b, 255 - a, got.A}} {
				if away := 2 * (c[0]*c[1] - 255*c[2]); away < -255 || away > 255 {
					t.Errorf("%d times %d is %d", c[0], c[1], c[2])
				}
			}
		}
	}
}

// Each channel goes by itself: what stands in the others makes no difference.
func TestTimesGoesChannelByChannel(t *testing.T) {
	white := api.Color{R: 255, G: 255, B: 255, A: 255}
	for at := range 4 {
		for n := range 256 {
			c := with(color([4]int{11, 22, 33, 44}), at, n)
			if got, e := Times(c, white); got != c || e != api.OK {
				t.Errorf("Times(%v, white) is %v, %d", c, got, e)
			}
			if got, e := Times(white, c); got != c || e != api.OK {
				t.Errorf("Times(white, %v) is %v, %d", c, got, e)
			}
			if got, e := Times(c, with(api.Color{}, at, 255)); got != with(api.Color{}, at, n) || e != api.OK {
				t.Errorf("Times of %v with channel %d alone is %v, %d", c, at, got, e)
			}
		}
	}
}

func TestTimesOfColorsThatAreNotRight(t *testing.T) {
	for _, wrong := range wrongColors() {
		for _, right := range bases() {
			for _, pair := range [][2]api.Color{{wrong, right}, {right, wrong}, {wrong, wrong}} {
				if c, e := Times(pair[0], pair[1]); c != (api.Color{}) || e != api.ErrRange {
					t.Errorf("Times(%v, %v) is %v, %d, want ErrRange", pair[0], pair[1], c, e)
				}
			}
		}
	}
}

func TestOfTold(t *testing.T) {
	for _, c := range []struct {
		l    [6]int
		want api.Color
	}{
		{[6]int{}, api.Color{}},
		{[6]int{1, 2, 3, 4, 5, 6}, api.Color{R: 1, G: 2, B: 3, A: 4}},
		{[6]int{-5, 300, 7, 8, 9, 9}, api.Color{G: 255, B: 7, A: 8}},
		{[6]int{-1, 0, 255, 256, 0, 0}, api.Color{B: 255, A: 255}},
		{[6]int{256, 255, 0, -1, 1, 1}, api.Color{R: 255, G: 255}},
		{[6]int{least, most, least, most, most, least}, api.Color{G: 255, A: 255}},
		{[6]int{most, least, most, least, least, most}, api.Color{R: 255, B: 255}},
	} {
		if got := Of(c.l); got != c.want {
			t.Errorf("Of(%v) is %v, want %v", c.l, got, c.want)
		}
	}
}

// heldNumbers has numbers, and what they are from 0 to 255.
func heldNumbers() [][2]int {
	l := [][2]int{
		{-1, 0}, {-2, 0}, {-255, 0}, {-256, 0}, {-1 << 16, 0}, {-1 << 32, 0}, {-1<<32 + 7, 0}, {least, 0}, {least + 1, 0}, {least + 255, 0},
		{256, 255}, {257, 255}, {511, 255}, {512, 255}, {1 << 16, 255}, {1 << 32, 255}, {1<<32 + 7, 255}, {1 << 62, 255}, {most - 1, 255}, {most, 255},
	}
	for n := range 256 {
		l = append(l, [2]int{n, n})
	}
	return l
}

func TestOfHoldsEachNumber(t *testing.T) {
	for at := range 4 {
		for _, pair := range heldNumbers() {
			for _, last := range [][2]int{{0, 0}, {255, -1}, {-1, 256}, {77, 1 << 40}, {least, most}, {most, least}} {
				l := [6]int{10, 20, 30, 40, last[0], last[1]}
				l[at] = pair[0]
				want := with(color([4]int{10, 20, 30, 40}), at, pair[1])
				if got := Of(l); got != want || !Right(got) {
					t.Errorf("Of(%v) is %v, want %v", l, got, want)
				}
			}
		}
	}
}

func TestGrayTold(t *testing.T) {
	for _, c := range []struct {
		c    api.Color
		want int
	}{
		{api.Color{}, 0}, {api.Color{A: 255}, 0}, {api.Color{A: 1}, 0},
		{api.Color{R: 255, G: 255, B: 255}, 255}, {api.Color{R: 255, G: 255, B: 255, A: 255}, 255},
		{api.Color{R: 255}, 77}, {api.Color{G: 255}, 149}, {api.Color{B: 255}, 29},
		{api.Color{R: 1}, 0}, {api.Color{R: 2}, 1}, {api.Color{G: 1}, 1}, {api.Color{B: 4}, 0}, {api.Color{B: 5}, 1},
		{api.Color{R: 254}, 76}, {api.Color{G: 254}, 149}, {api.Color{B: 254}, 29},
		{api.Color{R: 255, G: 255}, 226}, {api.Color{R: 255, B: 255}, 106}, {api.Color{G: 255, B: 255}, 178},
		{api.Color{R: 10, G: 20, B: 30, A: 40}, 18}, {api.Color{R: 128, G: 128, B: 128}, 128},
	} {
		if got, e := Gray(c.c); got != c.want || e != api.OK {
			t.Errorf("Gray(%v) is %d, %d, want %d", c.c, got, e, c.want)
		}
	}
}

// holdGray holds what Gray answers between the two bounds that cutting off leaves.
func holdGray(t *testing.T, c api.Color) {
	t.Helper()
	got, e := Gray(c)
	rest := 77*c.R + 150*c.G + 29*c.B + 128 - 256*got
	if rest < 0 || rest > 255 || e != api.OK {
		t.Errorf("Gray(%v) is %d, %d", c, got, e)
	}
}

func TestGrayOfEachChannel(t *testing.T) {
	for at := range 4 {
		for n := range 256 {
			holdGray(t, with(api.Color{}, at, n))
			holdGray(t, with(color([4]int{255, 255, 255, 255}), at, n))
		}
	}
	next := rule(3)
	for range 5000 {
		holdGray(t, colorBy(next))
	}
}

// What is as light in red, green and blue is just that light, whatever its alpha.
func TestGrayOfGrays(t *testing.T) {
	for n := range 256 {
		for _, a := range []int{0, 1, 128, 254, 255} {
			if got, e := Gray(api.Color{R: n, G: n, B: n, A: a}); got != n || e != api.OK {
				t.Errorf("Gray of %d with alpha %d is %d, %d", n, a, got, e)
			}
		}
	}
}

func TestGrayOfColorsThatAreNotRight(t *testing.T) {
	for _, c := range wrongColors() {
		if n, e := Gray(c); n != 0 || e != api.ErrRange {
			t.Errorf("Gray(%v) is %d, %d, want ErrRange", c, n, e)
		}
	}
}
