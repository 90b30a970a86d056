package blend

import (
	"math"
	"testing"

	"tempera/api"
)

const most, least = math.MaxInt, math.MinInt

// color is four numbers as a colour.
func color(l [4]int) api.Color { return api.Color{R: l[0], G: l[1], B: l[2], A: l[3]} }

// numbers is a colour as four numbers.
func numbers(c api.Color) [4]int { return [4]int{c.R, c.G, c.B, c.A} }

// with is a colour with one channel set, told by its number.
func with(c api.Color, at, n int) api.Color {
	l := numbers(c)
	l[at] = n
	return color(l)
}

// bases are colours that are right.
func bases() []api.Color {
	return []api.Color{{}, color([4]int{255, 255, 255, 255}), color([4]int{1, 2, 3, 4}), color([4]int{128, 64, 32, 16})}
}

// edgeColors are all colours of channels of 0, 128 and 255.
func edgeColors() []api.Color {
	ends := [3]int{0, 128, 255}
	var l []api.Color
	for n := range 81 {
		l = append(l, color([4]int{ends[n/27], ends[n/9%3], ends[n/3%3], ends[n%3]}))
	}
	return l
}

// wrongColors are colours of which just one channel is wrong, each channel in turn, and some of which several are.
func wrongColors() []api.Color {
	l := []api.Color{
		color([4]int{-1, -1, -1, -1}), color([4]int{256, 256, 256, 256}), color([4]int{-1, 256, 0, 0}),
		color([4]int{least, least, least, least}), color([4]int{most, most, most, most}),
	}
	for _, c := range bases() {
		for at := range 4 {
			for _, n := range []int{-1, 256, -255, -256, 510, 512, 1 << 32, 1<<32 + 7, -1 << 32, least, least + 255, most} {
				l = append(l, with(c, at, n))
			}
		}
	}
	return l
}

// outside are numbers that are not from 0 to end, some of which would be if their higher bits, or their sign, were lost.
func outside(end int) []int {
	return []int{-1, end + 1, -2, end + 2, -end, -end - 1, 1 << 8, 1 << 16, -1 << 16, 1 << 32, 1<<32 + 1, -1 << 32, 1 << 62, least, least + 1, most - 1, most}
}

// rule tells numbers from 0 to end, by a rule that is the same each time.
func rule(seed uint64) func(end int) int {
	return func(end int) int {
		seed = seed*6364136223846793005 + 1442695040888963407
		return int(seed >> 20 % uint64(end+1))
	}
}

func colorBy(next func(int) int) api.Color {
	return color([4]int{next(255), next(255), next(255), next(255)})
}

func blendBy(next func(int) int) api.Blend {
	return api.Blend{Src: next(9), Dst: next(9), Eq: next(4), Mask: next(15)}
}

// blends are all blends that may be.
func blends() []api.Blend {
	var l []api.Blend
	for n := range 10 * 10 * 5 * 16 {
		l = append(l, api.Blend{Src: n / 800, Dst: n / 80 % 10, Eq: n / 16 % 5, Mask: n % 16})
	}
	return l
}

// wrongKinds are blends of which a factor, or the equation, may not be, with masks of all kinds.
func wrongKinds() []api.Blend {
	var l []api.Blend
	for _, mask := range []int{0, 1, 7, 15, -1, 16, least, most} {
		for _, n := range outside(9) {
			for _, right := range []int{0, 5, 9} {
				l = append(l,
					api.Blend{Src: n, Dst: right, Eq: 4, Mask: mask},
					api.Blend{Src: right, Dst: n, Eq: 0, Mask: mask},
					api.Blend{Src: n, Dst: n, Eq: 2, Mask: mask})
			}
		}
		for _, n := range outside(4) {
			for _, right := range []int{0, 5, 9} {
				l = append(l, api.Blend{Src: right, Dst: 9 - right, Eq: n, Mask: mask})
			}
		}
		l = append(l, api.Blend{Src: -1, Dst: 10, Eq: 5, Mask: mask})
	}
	return l
}

// wrongMasks are blends of which the mask alone may not be.
func wrongMasks() []api.Blend {
	var l []api.Blend
	for _, mask := range outside(15) {
		for _, factor := range []int{0, 5, 9} {
			for eq := range 5 {
				l = append(l, api.Blend{Src: factor, Dst: 9 - factor, Eq: eq, Mask: mask})
			}
		}
	}
	return l
}

// factorOf is what the chapter has a factor say of one channel, told by its number.
func factorOf(kind, at int, fresh, old [4]int) int {
	if kind%2 == 1 {
		return 255 - factorOf(kind-1, at, fresh, old)
	}
	return [5]int{0, fresh[at], old[at], fresh[3], old[3]}[kind/2]
}

// weighedSum is what the equations 0, 1 and 2 cut.
func weighedSum(b api.Blend, at int, fresh, old [4]int) int {
	first := fresh[at] * factorOf(b.Src, at, fresh, old)
	second := old[at] * factorOf(b.Dst, at, fresh, old)
	return [3]int{first + second, first - second, second - first}[b.Eq]
}

// channelOf is what the chapter has a blend make of one channel; there is just one such number from 0 to 255.
func channelOf(b api.Blend, at int, fresh, old [4]int) int {
	if b.Mask>>at%2 == 0 {
		return old[at]
	}
	if b.Eq > 2 {
		lesser, greater := fresh[at], old[at]
		if lesser > greater {
			lesser, greater = greater, lesser
		}
		return [2]int{lesser, greater}[b.Eq-3]
	}
	n := weighedSum(b, at, fresh, old) + 127
	if n < 0 {
		return 0
	}
	if n >= 255*255 {
		return 255
	}
	return n / 255
}

// holdMix holds what Mix answers against the chapter's words, channel by channel.
func holdMix(t *testing.T, b api.Blend, fresh, old api.Color) {
	t.Helper()
	var want [4]int
	for at := range 4 {
		want[at] = channelOf(b, at, numbers(fresh), numbers(old))
	}
	if got, e := Mix(b, fresh, old); got != color(want) || e != api.OK {
		t.Errorf("Mix(%v, %v, %v) is %v, %d, want %v", b, fresh, old, got, e, want)
	}
}

// P7.1

func TestPlainTold(t *testing.T) {
	if got := Plain(); got != (api.Blend{Src: 1, Dst: 0, Eq: 0, Mask: 15}) {
		t.Errorf("Plain() is %v", got)
	}
	if e := Check(Plain()); e != api.OK {
		t.Errorf("Check(Plain()) is %d", e)
	}
}

func TestPlainLetsStandWhatIsNew(t *testing.T) {
	for _, fresh := range edgeColors() {
		for _, old := range edgeColors() {
			if got, e := Mix(Plain(), fresh, old); got != fresh || e != api.OK {
				t.Errorf("Mix(Plain(), %v, %v) is %v, %d", fresh, old, got, e)
			}
		}
	}
	next := rule(1)
	for range 2000 {
		fresh, old := colorBy(next), colorBy(next)
		if got, e := Mix(Plain(), fresh, old); got != fresh || e != api.OK {
			t.Errorf("Mix(Plain(), %v, %v) is %v, %d", fresh, old, got, e)
		}
	}
}

func TestCheckTold(t *testing.T) {
	for _, c := range []struct {
		b    api.Blend
		want api.Errno
	}{
		{api.Blend{}, api.OK}, {api.Blend{Src: 9, Dst: 9, Eq: 4, Mask: 15}, api.OK}, {api.Blend{Src: 6, Dst: 7, Mask: 15}, api.OK},
		{api.Blend{Src: 9}, api.OK}, {api.Blend{Src: 10}, api.ErrKind}, {api.Blend{Src: -1}, api.ErrKind},
		{api.Blend{Dst: 9}, api.OK}, {api.Blend{Dst: 10}, api.ErrKind}, {api.Blend{Dst: -1}, api.ErrKind},
		{api.Blend{Eq: 4}, api.OK}, {api.Blend{Eq: 5}, api.ErrKind}, {api.Blend{Eq: -1}, api.ErrKind},
		{api.Blend{Mask: 15}, api.OK}, {api.Blend{Mask: 16}, api.ErrRange}, {api.Blend{Mask: -1}, api.ErrRange},
		{api.Blend{Mask: 1}, api.OK}, {api.Blend{Mask: 2}, api.OK}, {api.Blend{Mask: 4}, api.OK}, {api.Blend{Mask: 8}, api.OK},
		{api.Blend{Src: 10, Mask: 16}, api.ErrKind}, {api.Blend{Dst: -1, Mask: -1}, api.ErrKind}, {api.Blend{Eq: 5, Mask: 16}, api.ErrKind},
	} {
		if got := Check(c.b); got != c.want {
			t.Errorf("Check(%v) is %d, want %d", c.b, got, c.want)
		}
	}
}

func TestCheckOfAllBlendsThatMayBe(t *testing.T) {
	for _, b := range blends() {
		if e := Check(b); e != api.OK {
			t.Errorf("Check(%v) is %d", b, e)
		}
	}
}

func TestCheckOfBlendsThatMayNotBe(t *testing.T) {
	for _, b := range wrongKinds() {
		if e := Check(b); e != api.ErrKind {
			t.Errorf("Check(%v) is %d, want ErrKind", b, e)
		}
	}
	for _, b := range wrongMasks() {
		if e := Check(b); e != api.ErrRange {
			t.Errorf("Check(%v) is %d, want ErrRange", b, e)
		}
	}
}

// P7.2

func TestFactorTold(t *testing.T) {
	for _, c := range []struct {
		fresh, old [4]int
		want       [10][4]int
	}{
		{[4]int{0, 128, 255, 128}, [4]int{255, 0, 128, 255}, [10][4]int{
			{0, 0, 0, 0}, {255, 255, 255, 255},
			{0, 128, 255, 128}, {255, 127, 0, 127},
			{255, 0, 128, 255}, {0, 255, 127, 0},
			{128, 128, 128, 128}, {127, 127, 127, 127},
			{255, 255, 255, 255}, {0, 0, 0, 0},
		}},
		{[4]int{128, 255, 0, 0}, [4]int{0, 128, 255, 128}, [10][4]int{
			{0, 0, 0, 0}, {255, 255, 255, 255},
			{128, 255, 0, 0}, {127, 0, 255, 255},
			{0, 128, 255, 128}, {255, 127, 0, 127},
			{0, 0, 0, 0}, {255, 255, 255, 255},
			{128, 128, 128, 128}, {127, 127, 127, 127},
		}},
		{[4]int{1, 2, 3, 255}, [4]int{254, 5, 6, 0}, [10][4]int{
			{0, 0, 0, 0}, {255, 255, 255, 255},
			{1, 2, 3, 255}, {254, 253, 252, 0},
			{254, 5, 6, 0}, {1, 250, 249, 255},
			{255, 255, 255, 255}, {0, 0, 0, 0},
			{0, 0, 0, 0}, {255, 255, 255, 255},
		}},
		{[4]int{10, 20, 30, 40}, [4]int{30, 20, 10, 5}, [10][4]int{
			{0, 0, 0, 0}, {255, 255, 255, 255},
			{10, 20, 30, 40}, {245, 235, 225, 215},
			{30, 20, 10, 5}, {225, 235, 245, 250},
			{40, 40, 40, 40}, {215, 215, 215, 215},
			{5, 5, 5, 5}, {250, 250, 250, 250},
		}},
	} {
		for kind, want := range c.want {
			if got, e := Factor(kind, color(c.fresh), color(c.old)); got != color(want) || e != api.OK {
				t.Errorf("Factor(%d, %v, %v) is %v, %d, want %v", kind, c.fresh, c.old, got, e, want)
			}
		}
	}
}

// holdFactor holds what Factor answers against the chapter's words, channel by channel.
func holdFactor(t *testing.T, kind int, fresh, old api.Color) {
	t.Helper()
	var want [4]int
	for at := range 4 {
		want[at] = factorOf(kind, at, numbers(fresh), numbers(old))
	}
	if got, e := Factor(kind, fresh, old); got != color(want) || e != api.OK {
		t.Errorf("Factor(%d, %v, %v) is %v, %d, want %v", kind, fresh, old, got, e, want)
	}
}

func TestFactorAtTheEdges(t *testing.T) {
	for kind := range 10 {
		for _, fresh := range edgeColors() {
			for _, old := range edgeColors() {
				holdFactor(t, kind, fresh, old)
			}
		}
	}
}

func TestFactorOfEachChannel(t *testing.T) {
	for kind := range 10 {
		for at := range 4 {
			for n := range 256 {
				holdFactor(t, kind, with(color([4]int{11, 22, 33, 44}), at, n), color([4]int{55, 66, 77, 88}))
				holdFactor(t, kind, color([4]int{11, 22, 33, 44}), with(color([4]int{55, 66, 77, 88}), at, n))
			}
		}
	}
}

func TestFactorOfKindsThatAreNone(t *testing.T) {
	for _, kind := range outside(9) {
		for _, fresh := range append(bases(), wrongColors()...) {
			for _, pair := range [][2]api.Color{{fresh, {R: 7}}, {{R: 7}, fresh}, {fresh, fresh}} {
				if c, e := Factor(kind, pair[0], pair[1]); c != (api.Color{}) || e != api.ErrKind {
					t.Errorf("Factor(%d, %v, %v) is %v, %d, want ErrKind", kind, pair[0], pair[1], c, e)
				}
			}
		}
	}
}

// Both colours are asked, also by a factor that says nothing of the one, or of either.
func TestFactorOfColorsThatAreNotRight(t *testing.T) {
	for kind := range 10 {
		for _, wrong := range wrongColors() {
			for _, right := range bases() {
				for _, pair := range [][2]api.Color{{wrong, right}, {right, wrong}, {wrong, wrong}} {
					if c, e := Factor(kind, pair[0], pair[1]); c != (api.Color{}) || e != api.ErrRange {
						t.Errorf("Factor(%d, %v, %v) is %v, %d, want ErrRange", kind, pair[0], pair[1], c, e)
					}
				}
			}
		}
	}
}

// P7.3

func TestMixOfTheExample(t *testing.T) {
	b := api.Blend{Src: 6, Dst: 7, Mask: 15}
	red, white := api.Color{R: 255, A: 128}, api.Color{R: 255, G: 255, B: 255, A: 255}
	// A: 128 times 128, 255 times 127, and 127, together, by 255: 48896 by 255.
	want := api.Color{R: 255, G: 127, B: 127, A: 191}
	if got, e := Mix(b, red, white); got != want || e != api.OK {
		t.Errorf("Mix(%v, red, white) is %v, %d, want %v", b, got, e, want)
	}
}

// R alone is told, A being there for the factors 6 and 8: each is how often R counts.
func TestMixToldOfOneChannel(t *testing.T) {
	for _, c := range []struct {
		name                         string
		eq, fresh, alpha, old, other int
		want                         int
	}{
		{"0: 127 does not reach", 0, 1, 127, 0, 0, 0}, {"0: 128 does", 0, 1, 128, 0, 0, 1},
		{"0: of the old one, too", 0, 0, 0, 1, 127, 0}, {"0: of the old one, too", 0, 0, 0, 1, 128, 1},
		{"0: together, not each for itself", 0, 1, 64, 1, 64, 1}, {"0: together, not each for itself", 0, 1, 64, 1, 63, 0},
		{"0: cut once", 0, 1, 128, 1, 128, 1}, {"0: both whole", 0, 100, 255, 55, 255, 155},
		{"0: just below the greatest", 0, 255, 254, 1, 127, 254}, {"0: just the greatest", 0, 255, 254, 1, 128, 255},
		{"0: at the greatest", 0, 200, 255, 55, 255, 255}, {"0: above it", 0, 200, 255, 56, 255, 255}, {"0: far above it", 0, 255, 255, 255, 255, 255},
		{"0: nothing", 0, 0, 255, 0, 255, 0}, {"0: nothing counts", 0, 255, 0, 255, 0, 0},
		{"1: what is left", 1, 30, 255, 10, 255, 20}, {"1: below 0", 1, 10, 255, 30, 255, 0}, {"1: far below 0", 1, 0, 255, 255, 255, 0},
		{"1: all is left", 1, 255, 255, 0, 255, 255}, {"1: nothing is left", 1, 77, 200, 77, 200, 0},
		{"1: 127 does not reach", 1, 2, 128, 1, 129, 0}, {"1: 128 does", 1, 2, 128, 1, 128, 1},
		{"1: below 0, no lower than 0", 1, 0, 0, 1, 127, 0}, {"1: below 0, lower", 1, 0, 0, 1, 128, 0}, {"1: below 0, by one whole", 1, 0, 0, 2, 191, 0},
		{"2: what is left", 2, 10, 255, 30, 255, 20}, {"2: below 0", 2, 30, 255, 10, 255, 0}, {"2: far below 0", 2, 255, 255, 0, 255, 0},
		{"2: all is left", 2, 0, 255, 255, 255, 255}, {"2: nothing is left", 2, 77, 200, 77, 200, 0},
		{"2: 127 does not reach", 2, 1, 129, 2, 128, 0}, {"2: 128 does", 2, 1, 128, 2, 128, 1},
		{"2: below 0, no lower than 0", 2, 1, 127, 0, 0, 0}, {"2: below 0, lower", 2, 1, 128, 0, 0, 0}, {"2: below 0, by one whole", 2, 2, 191, 0, 0, 0},
		{"3: the new one", 3, 10, 0, 30, 255, 10}, {"3: the old one", 3, 30, 255, 10, 0, 10}, {"3: both", 3, 9, 1, 9, 200, 9},
		{"3: no factors", 3, 255, 0, 254, 0, 254}, {"3: the ends", 3, 0, 255, 255, 255, 0},
		{"4: the new one", 4, 30, 0, 10, 255, 30}, {"4: the old one", 4, 10, 255, 30, 0, 30}, {"4: both", 4, 9, 1, 9, 200, 9},
		{"4: no factors", 4, 255, 0, 254, 0, 255}, {"4: the ends", 4, 0, 0, 255, 0, 255},
	} {
		b := api.Blend{Src: 6, Dst: 8, Eq: c.eq, Mask: 1}
		fresh, old := api.Color{R: c.fresh, G: 9, B: 9, A: c.alpha}, api.Color{R: c.old, G: 1, B: 2, A: c.other}
		want := with(old, 0, c.want)
		if got, e := Mix(b, fresh, old); got != want || e != api.OK {
			t.Errorf("%s: Mix(%v, %v, %v) is %v, %d, want %v", c.name, b, fresh, old, got, e, want)
		}
	}
}

// What lies below 0 is held at 0 in the end, so that how it was cut is seen only here.
func TestNearestIsCutDownwards(t *testing.T) {
	for _, c := range [][2]int{
		{0, 0}, {127, 0}, {128, 1}, {255, 1}, {382, 1}, {383, 2}, {65025, 255}, {65152, 255}, {65153, 256}, {130050, 510},
		{-1, 0}, {-127, 0}, {-128, -1}, {-255, -1}, {-382, -1}, {-383, -2}, {-65025, -255}, {-65152, -255}, {-65153, -256}, {-130050, -510},
	} {
		if got := nearest(c[0]); got != c[1] {
			t.Errorf("nearest(%d) is %d, want %d", c[0], got, c[1])
		}
	}
}

func TestMixOfMasks(t *testing.T) {
	fresh, old := color([4]int{10, 20, 30, 40}), color([4]int{110, 120, 130, 140})
	for mask, want := range [16][4]int{
		{110, 120, 130, 140}, {10, 120, 130, 140}, {110, 20, 130, 140}, {10, 20, 130, 140},
		{110, 120, 30, 140}, {10, 120, 30, 140}, {110, 20, 30, 140}, {10, 20, 30, 140},
		{110, 120, 130, 40}, {10, 120, 130, 40}, {110, 20, 130, 40}, {10, 20, 130, 40},
		{110, 120, 30, 40}, {10, 120, 30, 40}, {110, 20, 30, 40}, {10, 20, 30, 40},
	} {
		for _, b := range []api.Blend{{Src: 1, Mask: mask}, {Eq: 3, Mask: mask}, {Src: 1, Dst: 0, Eq: 1, Mask: mask}} {
			if got, e := Mix(b, fresh, old); got != color(want) || e != api.OK {
				t.Errorf("Mix(%v, %v, %v) is %v, %d, want %v", b, fresh, old, got, e, want)
			}
		}
	}
}

func TestMixOfAllBlends(t *testing.T) {
	next := rule(2)
	for _, b := range blends() {
		for range 8 {
			holdMix(t, b, colorBy(next), colorBy(next))
		}
	}
}

func TestMixAtTheEdges(t *testing.T) {
	next := rule(3)
	for _, fresh := range edgeColors() {
		for _, old := range edgeColors() {
			for range 20 {
				holdMix(t, blendBy(next), fresh, old)
			}
		}
	}
}

// Each channel of the new colour onto each of the old one, by each equation, with factors that hang on nothing and on all.
func TestMixOfAllChannels(t *testing.T) {
	next := rule(4)
	for a := range 256 {
		for b := range 256 {
			fresh, old := color([4]int{a, b, 255 - a, b}), color([4]int{b, a, b, 255 - a})
			for eq := range 5 {
				holdMix(t, api.Blend{Src: 1, Dst: 1, Eq: eq, Mask: 15}, fresh, old)
				holdMix(t, api.Blend{Src: next(9), Dst: next(9), Eq: eq, Mask: 15}, fresh, old)
			}
		}
	}
}

// The error of the blend is told, whatever the colours are.
func TestMixOfBlendsThatMayNotBe(t *testing.T) {
	wrong := api.Color{R: 256}
	pairs := [][2]api.Color{{}, {{R: 1, G: 2, B: 3, A: 4}, {R: 5, G: 6, B: 7, A: 8}}, {wrong, {}}, {{}, wrong}, {wrong, wrong}}
	for _, pair := range pairs {
		for _, b := range wrongKinds() {
			if c, e := Mix(b, pair[0], pair[1]); c != (api.Color{}) || e != api.ErrKind {
				t.Errorf("Mix(%v, %v, %v) is %v, %d, want ErrKind", b, pair[0], pair[1], c, e)
			}
		}
		for _, b := range wrongMasks() {
			if c, e := Mix(b, pair[0], pair[1]); c != (api.Color{}) || e != api.ErrRange {
				t.Errorf("Mix(%v, %v, %v) is %v, %d, want ErrRange", b, pair[0], pair[1], c, e)
			}
		}
	}
}

// Both colours are asked, whichever channels are written, and whichever factors count.
func TestMixOfColorsThatAreNotRight(t *testing.T) {
	next := rule(5)
	for _, wrong := range wrongColors() {
		for _, right := range bases() {
			for _, pair := range [][2]api.Color{{wrong, right}, {right, wrong}, {wrong, wrong}} {
				for _, b := range []api.Blend{{}, {Eq: 3}, {Eq: 4, Mask: 15}, Plain(), {Dst: 1, Mask: 15}, blendBy(next), blendBy(next)} {
					if c, e := Mix(b, pair[0], pair[1]); c != (api.Color{}) || e != api.ErrRange {
						t.Errorf("Mix(%v, %v, %v) is %v, %d, want ErrRange", b, pair[0], pair[1], c, e)
					}
				}
			}
		}
	}
}
