package rail_test

import (
	"math"
	"math/rand"
	"slices"
	"testing"

	"deckhand/api"
	"deckhand/rail"
)

var (
	inf       = math.Inf(1)
	nan       = math.NaN()
	minusNull = math.Copysign(0, -1)
)

const (
	tiny = 0x1p-1074 // the least float above 0
	huge = math.MaxFloat64
	most = 1<<63 - 1
)

// noNumbers is no-numbers of several bits.
func noNumbers() []float64 {
	var l []float64
	for _, b := range []uint64{0x7FF0000000000001, 0x7FF8000000000000, 0x7FFFFFFFFFFFFFFF, 0xFFF0000000000001, 0xFFF8000000000000, 0xFFFFFFFFFFFFFFFF} {
		l = append(l, math.Float64frombits(b))
	}
	return l
}

// up and down are the floats next to one.
func up(f float64) float64   { return math.Nextafter(f, inf) }
func down(f float64) float64 { return math.Nextafter(f, -inf) }

// sp is the span from lo to hi.
func sp(lo, hi int) api.Span { return api.Span{Lo: lo, Hi: hi} }

// row is n borders, 0, 9, 18 and so on.
func row(n int) []float64 {
	l := make([]float64, n)
	for i := range l {
		l[i] = 9 * float64(i)
	}
	return l
}

// with is a list in which a float stands at a place.
func with(l []float64, at int, f float64) []float64 {
	l = slices.Clone(l)
	l[at] = f
	return l
}

// some are floats that stand for all kinds of them.
var some = []float64{-inf, -huge, -1, -tiny, minusNull, 0, tiny, 1, up(1), 2, huge, inf, nan}

// short are all lists of up to 3 of some floats.
func short() [][]float64 {
	all := [][]float64{nil}
	for from := 0; len(all[from]) < 3; from++ {
		for _, f := range some {
			all = append(all, append(slices.Clone(all[from]), f))
		}
	}
	return all
}

// wrongAt is the refusal of the first border that is wrong, as the document has it.
func wrongAt(borders []float64) api.Errno {
	for i := range borders {
		if math.IsNaN(borders[i]) {
			return api.ErrNaN
		}
		if i > 0 && !(borders[i] > borders[i-1]) {
			return api.ErrRail
		}
	}
	return api.OK
}

// checked is what Check must tell.
func checked(borders []float64) api.Errno {
	if len(borders) < 2 {
		return api.ErrArg
	}
	if len(borders) > 25 {
		return api.ErrLong
	}
	return wrongAt(borders)
}

// rightRails are borders that are right.
func rightRails() [][]float64 {
	l := [][]float64{row(2), row(3), row(4), row(24), row(25), {-inf, inf}, {-inf, 0}, {0, inf}, {-inf, -1, 1, inf}, {-inf, -huge, huge, inf}, {-tiny, 0, tiny}, {-tiny, minusNull, tiny}, {1, up(1), up(up(1))}, {1<<53 - 2, 1 << 53, 1<<53 + 2}, {-huge, huge}, {-3.5, -3, 0.25, 100}}
	for _, borders := range short() {
		if checked(borders) == api.OK {
			l = append(l, borders)
		}
	}
	return l
}

// wrongRails are borders that are refused, and as what.
func wrongRails() map[api.Errno][][]float64 {
	return map[api.Errno][][]float64{
		api.ErrArg:  {nil, {}, {0}, {nan}, {inf}, {-inf}},
		api.ErrLong: {row(26), row(27), row(1000), with(row(26), 0, nan), with(row(26), 25, nan), with(row(26), 1, -1), make([]float64, 26)},
		api.ErrNaN:  {{nan, 1}, {1, nan}, {nan, nan}, {nan, 1, 0}, {0, nan, -1}, {0, 1, nan}, {nan, inf}, {-inf, nan}, {0, 1, 2, nan, 3, 3}, with(row(25), 0, nan), with(row(25), 12, nan), with(row(25), 24, nan), with(with(row(25), 12, nan), 13, 0)},
		api.ErrRail: {{0, 0}, {0, minusNull}, {minusNull, 0}, {1, 0}, {up(1), 1}, {inf, inf}, {-inf, -inf}, {inf, -inf}, {inf, 0}, {0, -inf}, {0, inf, inf}, {0, inf, huge}, {-inf, -inf, 0}, {0, 1, 1}, {0, 1, 0}, {0, 2, 1}, {2, 1, nan}, {1, 1, nan}, {0, minusNull, nan}, with(row(25), 24, 207), with(row(25), 1, 0), with(with(row(25), 12, 99), 13, nan)},
	}
}

// P7.1

func TestCheck(t *testing.T) {
	for _, borders := range rightRails() {
		if err := rail.Check(borders); err != api.OK {
			t.Error(borders, err)
		}
	}
	for want, all := range wrongRails() {
		for _, borders := range all {
			if err := rail.Check(borders); err != want {
				t.Error(borders, err, want)
			}
		}
	}
	for _, none := range noNumbers() {
		for i := range 25 {
			if err := rail.Check(with(row(25), i, none)); err != api.ErrNaN {
				t.Errorf("%d %x: %v", i, math.Float64bits(none), err)
			}
		}
	}
}

func TestCheckShortLists(t *testing.T) {
	for _, borders := range short() {
		if err := rail.Check(borders); err != checked(borders) {
			t.Error(borders, err)
		}
	}
}

func TestCheckEachPlace(t *testing.T) {
	for n := 2; n <= 25; n++ {
		for i := 1; i < n; i++ {
			borders := row(n)
			if err := rail.Check(with(borders, i, borders[i-1])); err != api.ErrRail {
				t.Error(n, i, err)
			}
			if err := rail.Check(with(borders, i, up(borders[i-1]))); err != api.OK {
				t.Error(n, i, err)
			}
		}
	}
}

// P7.2

// laneOf is the only lane in which a place lies, -1 if there is none, as the document has it.
func laneOf(borders []float64, x float64) int {
	lane, last := -1, len(borders)-2
	for k := range borders[:last+1] {
		if x >= borders[k] && (x < borders[k+1] || k == last && x == borders[k+1]) {
			lane = k
		}
	}
	return lane
}

// places are floats about borders.
func places(borders []float64) []float64 {
	l := slices.Clone(some)
	for i, b := range borders {
		l = append(l, b, down(b), up(b))
		if i > 0 {
			l = append(l, b/2+borders[i-1]/2)
		}
	}
	return l
}

func TestLane(t *testing.T) {
	for i, c := range []struct {
		borders []float64
		x       float64
		lane    int
		err     api.Errno
	}{
		{row(4), 9, 1, api.OK}, {row(4), 27, 2, api.OK}, // the chapter's example
		{row(4), 0, 0, api.OK}, {row(4), minusNull, 0, api.OK}, {row(4), down(9), 0, api.OK}, {row(4), up(9), 1, api.OK}, {row(4), down(18), 1, api.OK}, {row(4), 18, 2, api.OK}, {row(4), down(27), 2, api.OK},
		{row(4), up(27), 0, api.ErrOut}, {row(4), -tiny, 0, api.ErrOut}, {row(4), inf, 0, api.ErrOut}, {row(4), -inf, 0, api.ErrOut}, {row(4), nan, 0, api.ErrNaN}, {row(4), -huge, 0, api.ErrOut}, {row(4), huge, 0, api.ErrOut},
		{row(2), 0, 0, api.OK}, {row(2), 9, 0, api.OK}, {row(2), 4, 0, api.OK}, {row(2), up(9), 0, api.ErrOut}, {row(25), 216, 23, api.OK}, {row(25), down(207), 22, api.OK}, {row(25), 207, 23, api.OK},
		{[]float64{minusNull, 1}, 0, 0, api.OK}, {[]float64{0, 1}, minusNull, 0, api.OK}, {[]float64{-1, minusNull, 1}, 0, 1, api.OK}, {[]float64{-1, 0, 1}, minusNull, 1, api.OK}, {[]float64{-1, 0}, minusNull, 0, api.OK}, {[]float64{-1, minusNull}, 0, 0, api.OK}, {[]float64{-1, 0, 1}, -tiny, 0, api.OK}, {[]float64{-1, 0}, tiny, 0, api.ErrOut}, {[]float64{0, 1}, -tiny, 0, api.ErrOut},
		{[]float64{-inf, inf}, -inf, 0, api.OK}, {[]float64{-inf, inf}, inf, 0, api.OK}, {[]float64{-inf, 0, inf}, inf, 1, api.OK}, {[]float64{-inf, 0, inf}, -inf, 0, api.OK}, {[]float64{-inf, 0, inf}, -huge, 0, api.OK}, {[]float64{-inf, 0, inf}, huge, 1, api.OK}, {[]float64{-inf, 0, inf}, nan, 0, api.ErrNaN}, {[]float64{0, inf}, -inf, 0, api.ErrOut}, {[]float64{-inf, 0}, inf, 0, api.ErrOut},
	} {
		if lane, err := rail.Lane(c.borders, c.x); lane != c.lane || err != c.err {
			t.Error(i, c.borders, c.x, lane, err)
		}
	}
}

func TestLaneOfAll(t *testing.T) {
	for _, borders := range rightRails() {
		for _, x := range places(borders) {
			want, wantErr := laneOf(borders, x), api.OK
			switch {
			case math.IsNaN(x):
				want, wantErr = 0, api.ErrNaN
			case want < 0:
				want, wantErr = 0, api.ErrOut
			}
			if lane, err := rail.Lane(borders, x); lane != want || err != wantErr {
				t.Error(borders, x, lane, err)
			}
		}
		for _, none := range noNumbers() {
			if lane, err := rail.Lane(borders, none); lane != 0 || err != api.ErrNaN {
				t.Error(borders, none, lane, err)
			}
		}
	}
}

func TestLaneRefusesBorders(t *testing.T) {
	for want, all := range wrongRails() {
		for _, borders := range all {
			for _, x := range some {
				if lane, err := rail.Lane(borders, x); lane != 0 || err != want {
					t.Error(borders, x, lane, err)
				}
			}
		}
	}
}

// P7.3

// touchedBy is what Reach must tell of right borders: each lane is asked by itself.
func touchedBy(borders []float64, x, r float64) (api.Span, api.Errno) {
	a, b := x-r, x+r
	switch {
	case math.IsNaN(x), math.IsNaN(r):
		return api.Span{}, api.ErrNaN
	case r < 0:
		return api.Span{}, api.ErrBelow
	case math.IsNaN(a), math.IsNaN(b):
		return api.Span{}, api.ErrNaN
	}
	var lanes []int
	last := len(borders) - 2
	for k := range borders[:last+1] {
		if (a < borders[k+1] || k == last && a == borders[k+1]) && b >= borders[k] {
			lanes = append(lanes, k)
		}
	}
	if len(lanes) == 0 {
		return api.Span{}, api.ErrOut
	}
	return sp(lanes[0], lanes[len(lanes)-1]), api.OK
}

func TestReach(t *testing.T) {
	for i, c := range []struct {
		borders []float64
		x, r    float64
		lanes   api.Span
	}{
		{row(4), 9, 0.5, sp(0, 1)}, {row(4), 9, 0, sp(1, 1)}, {row(4), 9, minusNull, sp(1, 1)}, // the chapter's example
		{row(4), 4, 1, sp(0, 0)}, {row(4), 4, 5, sp(0, 1)}, {row(4), 4, 4.75, sp(0, 0)}, {row(4), 13.5, 4.5, sp(1, 2)}, {row(4), 13.5, 4.25, sp(1, 1)}, {row(4), 13.5, 4.75, sp(0, 2)}, {row(4), 13.5, 14, sp(0, 2)}, {row(4), 13.5, huge, sp(0, 2)}, {row(4), 13.5, inf, sp(0, 2)},
		// Beside the rail, but near enough.
		{row(4), 27, 0, sp(2, 2)}, {row(4), 28, 1, sp(2, 2)}, {row(4), 30, 12, sp(2, 2)}, {row(4), 30, 12.25, sp(1, 2)}, {row(4), 30, 30, sp(0, 2)}, {row(4), -1, 1, sp(0, 0)}, {row(4), -1, 10, sp(0, 1)}, {row(4), -1, 19, sp(0, 2)}, {row(4), -1, inf, sp(0, 2)}, {row(4), huge, huge, sp(0, 2)}, {row(4), -huge, huge, sp(0, 0)}, {row(4), -huge, inf, sp(0, 2)}, {row(4), huge, inf, sp(0, 2)},
		{row(2), 0, 0, sp(0, 0)}, {row(2), 9, 0, sp(0, 0)}, {row(2), 4, 100, sp(0, 0)}, {row(25), 108, 107, sp(0, 23)}, {row(25), 108, 99, sp(1, 23)}, {row(25), 216, 9, sp(23, 23)}, {row(25), 216, 9.25, sp(22, 23)},
		{[]float64{-inf, 0, inf}, 0, 0, sp(1, 1)}, {[]float64{-inf, 0, inf}, 0, tiny, sp(0, 1)}, {[]float64{-inf, 0, inf}, -tiny, 0, sp(0, 0)}, {[]float64{-inf, 0, inf}, -inf, 5, sp(0, 0)}, {[]float64{-inf, 0, inf}, inf, 5, sp(1, 1)}, {[]float64{-inf, 0, inf}, inf, 0, sp(1, 1)}, {[]float64{-inf, 0, inf}, inf, huge, sp(1, 1)}, {[]float64{-inf, 0, inf}, 3, inf, sp(0, 1)},
		{[]float64{-1, minusNull, 1}, 0, 0, sp(1, 1)}, {[]float64{-1, 0, 1}, minusNull, minusNull, sp(1, 1)}, {[]float64{-tiny, 0, tiny}, 0, tiny, sp(0, 1)}, {[]float64{-2 * tiny, -tiny, 0, tiny}, 0, tiny, sp(1, 2)},
		// As floats x - r and x + r may lie just at a border, where exactly they do not.
		{row(4), 4, down(5), sp(0, 1)}, {row(4), 13.5, up(4.5), sp(1, 2)},
		{[]float64{0, 1 << 53, 1 << 54}, 1 << 53, 0.5, sp(1, 1)}, {[]float64{0, 1 << 53, 1 << 54}, 1 << 53, up(0.5), sp(0, 1)}, {[]float64{0, 1, 2}, 1 - 0x1p-53, 0x1p-54, sp(0, 1)}, {[]float64{0, 1, 2}, 1 - 0x1p-53, down(0x1p-54), sp(0, 0)}, {[]float64{0, 1, 2}, 1, 0x1p-54, sp(1, 1)}, {[]float64{0, 1, 2}, 1, 0x1p-53, sp(0, 1)}, {[]float64{-1, 0}, 1, 1 - 0x1p-54, sp(0, 0)},
	} {
		if lanes, err := rail.Reach(c.borders, c.x, c.r); lanes != c.lanes || err != api.OK {
			t.Error(i, c.borders, c.x, c.r, lanes, err)
		}
	}
}

func TestReachRefuses(t *testing.T) {
	ends, open := row(4), []float64{-inf, 0, inf}
	for i, c := range []struct {
		borders []float64
		x, r    float64
		err     api.Errno
	}{
		{ends, nan, 1, api.ErrNaN}, {ends, 1, nan, api.ErrNaN}, {ends, nan, nan, api.ErrNaN}, {ends, nan, -1, api.ErrNaN}, {ends, nan, inf, api.ErrNaN}, {ends, inf, nan, api.ErrNaN}, {ends, 100, nan, api.ErrNaN},
		{ends, 9, -tiny, api.ErrBelow}, {ends, 9, -1, api.ErrBelow}, {ends, 9, -huge, api.ErrBelow}, {ends, 9, -inf, api.ErrBelow}, {ends, 100, -1, api.ErrBelow}, {ends, inf, -inf, api.ErrBelow}, {ends, -inf, -inf, api.ErrBelow}, {open, inf, -inf, api.ErrBelow}, {open, inf, -1, api.ErrBelow},
		{ends, inf, inf, api.ErrNaN}, {ends, -inf, inf, api.ErrNaN}, {open, inf, inf, api.ErrNaN}, {open, -inf, inf, api.ErrNaN},
		{ends, -tiny, 0, api.ErrOut}, {ends, up(27), 0, api.ErrOut}, {ends, up(27), minusNull, api.ErrOut}, {ends, 28, 0.75, api.ErrOut}, {ends, -1, 0.75, api.ErrOut}, {ends, inf, 0, api.ErrOut}, {ends, inf, huge, api.ErrOut}, {ends, -inf, huge, api.ErrOut}, {ends, huge, 5, api.ErrOut}, {ends, -huge, 5, api.ErrOut}, {[]float64{0, inf}, -inf, 5, api.ErrOut}, {[]float64{-inf, 0}, inf, 5, api.ErrOut},
	} {
		if lanes, err := rail.Reach(c.borders, c.x, c.r); lanes != (api.Span{}) || err != c.err {
			t.Error(i, c.borders, c.x, c.r, lanes, err)
		}
	}
	for want, all := range wrongRails() {
		for _, borders := range all {
			for _, x := range some {
				for _, r := range []float64{0, 1, -1, inf, nan} {
					if lanes, err := rail.Reach(borders, x, r); lanes != (api.Span{}) || err != want {
						t.Error(borders, x, r, lanes, err)
					}
				}
			}
		}
	}
	for _, none := range noNumbers() {
		for _, l := range [][2]float64{{none, 1}, {1, none}, {none, none}, {none, -1}} {
			if lanes, err := rail.Reach(ends, l[0], l[1]); lanes != (api.Span{}) || err != api.ErrNaN {
				t.Error(l, lanes, err)
			}
		}
	}
}

func TestReachOfAll(t *testing.T) {
	for _, borders := range rightRails() {
		near := places(borders)
		for _, x := range near {
			radii := []float64{0, minusNull, tiny, 0.5, 1, 4.5, 9, 1000, huge, inf, nan, -tiny, -1, -inf}
			for _, b := range borders {
				radii = append(radii, math.Abs(b-x), up(math.Abs(b-x)), down(math.Abs(b-x)))
			}
			for _, r := range radii {
				want, wantErr := touchedBy(borders, x, r)
				if lanes, err := rail.Reach(borders, x, r); lanes != want || err != wantErr {
					t.Fatal(borders, x, r, lanes, err, want, wantErr)
				}
			}
		}
	}
}

// P7.4

func TestWidth(t *testing.T) {
	for i, c := range []struct {
		borders []float64
		lane    int
		width   float64
	}{
		{row(4), 0, 9}, {row(4), 1, 9}, {row(4), 2, 9}, {row(25), 23, 9}, {row(2), 0, 9}, {[]float64{-3.5, -3, 0.25, 100}, 0, 0.5}, {[]float64{-3.5, -3, 0.25, 100}, 1, 3.25}, {[]float64{-3.5, -3, 0.25, 100}, 2, 99.75},
		{row(4), 3, 0}, {row(4), 4, 0}, {row(4), -1, 0}, {row(4), most, 0}, {row(4), -most, 0}, {row(4), -most - 1, 0}, {row(2), 1, 0}, {row(25), 24, 0},
		{[]float64{0, 0.1, 0.3}, 1, 0.3 - float64(0.1)}, {[]float64{0.1, 1 << 53}, 0, 1 << 53}, {[]float64{1, up(1)}, 0, 0x1p-52}, {[]float64{0, tiny}, 0, tiny}, {[]float64{-tiny, minusNull}, 0, tiny}, {[]float64{minusNull, 7}, 0, 7}, {[]float64{-huge, huge}, 0, inf},
		{[]float64{-inf, inf}, 0, inf}, {[]float64{-inf, 0, inf}, 0, inf}, {[]float64{-inf, 0, inf}, 1, inf}, {[]float64{-inf, 0, 4}, 1, 4},
	} {
		if w := rail.Width(c.borders, c.lane); math.Float64bits(w) != math.Float64bits(c.width) {
			t.Error(i, c.borders, c.lane, w)
		}
	}
	for _, all := range wrongRails() {
		for _, borders := range all {
			for lane := -2; lane < 28; lane++ {
				if w := rail.Width(borders, lane); math.Float64bits(w) != 0 {
					t.Error(borders, lane, w)
				}
			}
		}
	}
}

func TestWidthOfAll(t *testing.T) {
	for _, borders := range rightRails() {
		for lane := -2; lane < len(borders)+2; lane++ {
			want := 0.0
			if lane >= 0 && lane+1 < len(borders) {
				want = borders[lane+1] - borders[lane]
			}
			if w := rail.Width(borders, lane); math.Float64bits(w) != math.Float64bits(want) {
				t.Error(borders, lane, w, want)
			}
		}
	}
}

// P7.5

// anyRail is borders that rise by any steps.
func anyRail(r *rand.Rand) []float64 {
	borders := make([]float64, 2+r.Intn(24))
	at := r.NormFloat64() * 100
	for i := range borders {
		borders[i] = at
		at = up(at + r.ExpFloat64()*math.Pow(10, float64(r.Intn(6)-3)))
	}
	if r.Intn(4) == 0 {
		borders[0] = -inf
	}
	if r.Intn(4) == 0 {
		borders[len(borders)-1] = inf
	}
	return borders
}

func TestGreaterReachTouchesNoFewer(t *testing.T) {
	r := rand.New(rand.NewSource(1))
	for range 3000 {
		borders := anyRail(r)
		for _, x := range []float64{r.NormFloat64() * 100, borders[r.Intn(len(borders))], borders[0], borders[len(borders)-1], down(borders[len(borders)/2])} {
			radii := []float64{0, tiny, r.ExpFloat64(), r.ExpFloat64() * 10, r.ExpFloat64() * 100, huge, inf}
			slices.Sort(radii)
			lane, laneErr := rail.Lane(borders, x)
			var was api.Span
			touched := false
			for _, radius := range radii {
				lanes, err := rail.Reach(borders, x, radius)
				if laneErr == api.OK && err == api.OK && (lanes.Lo > lane || lanes.Hi < lane) {
					t.Fatal("its lane", borders, x, radius, lanes, lane)
				}
				if laneErr == api.OK && err != api.OK && err != api.ErrNaN {
					t.Fatal("refused", borders, x, radius, err)
				}
				if touched && err != api.ErrNaN && (err != api.OK || lanes.Lo > was.Lo || lanes.Hi < was.Hi) {
					t.Fatal("fewer", borders, x, radius, lanes, was, err)
				}
				if err == api.OK {
					was, touched = lanes, true
				}
			}
		}
	}
}

// R3: what is handed in stays as it was, and so does what lies behind its end.
func TestNothingIsChanged(t *testing.T) {
	all := []float64{0, 9, 18, 27, 5, nan, 3}
	given := slices.Clone(all)
	for n := range all {
		rail.Check(given[:n])
		rail.Lane(given[:n], 9)
		rail.Reach(given[:n], 9, 4)
		rail.Width(given[:n], 1)
	}
	for i := range all {
		if math.Float64bits(given[i]) != math.Float64bits(all[i]) {
			t.Error(i, given[i])
		}
	}
}
