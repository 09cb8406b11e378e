package real_test

import (
	"math"
	"math/big"
	"math/rand"
	"slices"
	"testing"

	"deckhand/api"
	"deckhand/real"
)

var (
	minusNull = math.Copysign(0, -1)
	inf       = math.Inf(1)
)

const (
	leastSmall = 0x1p-1074
	mostSmall  = 0x1p-1022 - 0x1p-1074
	leastFull  = 0x1p-1022
	maxInt     = 1<<63 - 1
	minInt     = -1 << 63
)

// rising is floats of all classes, each one ahead of the next one.
func rising() []float64 {
	up := []float64{leastSmall, 3 * leastSmall, mostSmall, leastFull, 0x1.8p-1022, 0.5, 1 - 0x1p-53, 1, 1 + 0x1p-52, 1.5, 1000, math.MaxFloat64, inf}
	var l []float64
	for i := range up {
		l = append(l, -up[len(up)-1-i])
	}
	l = append(l, minusNull, 0)
	return append(append(l, up...), math.NaN())
}

// noNumbers is no-numbers of several bits.
func noNumbers() []float64 {
	var l []float64
	for _, b := range []uint64{0x7FF0000000000001, 0x7FF8000000000000, 0x7FFFFFFFFFFFFFFF, 0xFFF0000000000001, 0xFFF8000000000000, 0xFFFFFFFFFFFFFFFF} {
		l = append(l, math.Float64frombits(b))
	}
	return l
}

// one tells whether two floats have the same bits, or are no-numbers both.
func one(a, b float64) bool {
	return math.Float64bits(a) == math.Float64bits(b) || math.IsNaN(a) && math.IsNaN(b)
}

func allOne(a, b []float64) bool { return slices.EqualFunc(a, b, one) }

// anyFloats is n floats of any bits, about a tenth of them below 2^-1022.
func anyFloats(n int) []float64 {
	r := rand.New(rand.NewSource(1))
	var l []float64
	for range n {
		b := r.Uint64()
		if r.Intn(10) == 0 {
			b &^= 0x7FF << 52
		}
		l = append(l, math.Float64frombits(b))
	}
	return l
}

// P1.1

func TestClassAndMinus(t *testing.T) {
	for _, c := range []struct {
		f     float64
		class int
	}{
		{0, api.ClassNull}, {leastSmall, api.ClassSmall}, {0x1p-1023, api.ClassSmall}, {mostSmall, api.ClassSmall}, {leastFull, api.ClassFull},
		{1, api.ClassFull}, {0.1, api.ClassFull}, {math.MaxFloat64, api.ClassFull}, {inf, api.ClassInf},
	} {
		if real.Class(c.f) != c.class || real.Class(math.Copysign(c.f, -1)) != c.class {
			t.Error("class", c.f, real.Class(c.f), real.Class(math.Copysign(c.f, -1)))
		}
		if real.Minus(c.f) || !real.Minus(math.Copysign(c.f, -1)) {
			t.Error("minus", c.f)
		}
	}
	for _, f := range noNumbers() {
		if real.Class(f) != api.ClassNone || real.Minus(f) {
			t.Errorf("%x: %v %v", math.Float64bits(f), real.Class(f), real.Minus(f))
		}
	}
}

func TestParts(t *testing.T) {
	for _, c := range []struct {
		f    float64
		m, e int
	}{
		{6, 3, 1}, {1, 1, 0}, {0.75, 3, -2}, {1 << 60, 1, 60}, {1000, 125, 3}, {1<<53 - 1, 1<<53 - 1, 0}, {1 + 0x1p-52, 1<<52 + 1, -52},
		{leastSmall, 1, -1074}, {6 * leastSmall, 3, -1073}, {0x1p-1023, 1, -1023}, {mostSmall, 1<<52 - 1, -1074},
		{leastFull, 1, -1022}, {leastFull + leastSmall, 1<<52 + 1, -1074}, {0x1p1023, 1, 1023}, {math.MaxFloat64, 1<<53 - 1, 971},
	} {
		if m, e := real.Parts(c.f); m != c.m || e != c.e {
			t.Error(c.f, m, e)
		}
		if m, e := real.Parts(-c.f); m != -c.m || e != c.e {
			t.Error(-c.f, m, e)
		}
	}
	for _, f := range append(noNumbers(), 0, minusNull, inf, -inf) {
		if m, e := real.Parts(f); m != 0 || e != 0 {
			t.Error(f, m, e)
		}
	}
}

// P1.2

func TestMakeEdges(t *testing.T) {
	for _, c := range []struct {
		m, e int
		f    float64
	}{
		{3, 1, 6}, {6, 0, 6}, {1, -1, 0.5}, {1, -1074, leastSmall}, {1, 1023, 0x1p1023},
		// Halves of the least float: to the even one.
		{1, -1075, 0}, {3, -1075, 2 * leastSmall}, {5, -1075, 2 * leastSmall}, {7, -1075, 4 * leastSmall}, {5, -1076, leastSmall}, {1, -1076, 0}, {3, -1076, leastSmall},
		{1 << 62, -1137, 0}, {1<<62 + 1, -1137, leastSmall}, {maxInt, -1137, leastSmall}, {maxInt, -1138, 0}, {maxInt, -1139, 0}, {1, minInt, 0}, {maxInt, minInt, 0},
		// From below 2^-1022 over to it.
		{1<<53 - 1, -1075, leastFull}, {1<<53 - 3, -1075, mostSmall - leastSmall}, {1<<52 - 1, -1074, mostSmall}, {1 << 52, -1074, leastFull},
		// Halves of 54 bits, and a hair beside them.
		{1<<53 + 1, 0, 1 << 53}, {1<<53 + 3, 0, 1<<53 + 4}, {1<<62 + 1<<9, 0, 1 << 62}, {1<<62 + 1<<9 + 1, 0, 1<<62 + 1<<10}, {1<<62 + 3<<9, 0, 1<<62 + 1<<11}, {1<<62 + 3<<9 - 1, 0, 1<<62 + 1<<10},
		{maxInt, 0, 1 << 63}, {1<<54 - 1, 0, 1 << 54},
		// About the greatest float.
		{1<<53 - 1, 971, math.MaxFloat64}, {1<<54 - 1, 970, inf}, {1<<55 - 3, 969, math.MaxFloat64}, {1<<54 - 3, 970, 0x1p1024 - 0x1p972}, {maxInt, 961, inf}, {maxInt, 960, 0x1p1023},
		{1, 1024, inf}, {1, 1023 + 64, inf}, {1, 5000, inf}, {1, maxInt, inf}, {maxInt, maxInt, inf},
	} {
		if f := real.Make(c.m, c.e); !one(f, c.f) {
			t.Errorf("%d * 2^%d: %x, not %x", c.m, c.e, f, c.f)
		}
		if f := real.Make(-c.m, c.e); !one(f, -c.f) {
			t.Errorf("%d * 2^%d: %x, not %x", -c.m, c.e, f, -c.f)
		}
	}
	for _, c := range []struct {
		e int
		f float64
	}{{0, -0x1p63}, {960, -0x1p1023}, {961, -inf}, {maxInt, -inf}, {-1137, -leastSmall}, {-1138, minusNull}, {minInt, minusNull}} {
		if f := real.Make(minInt, c.e); !one(f, c.f) {
			t.Errorf("-2^63 * 2^%d: %x, not %x", c.e, f, c.f)
		}
	}
	for _, e := range []int{minInt, -1075, 0, 1024, maxInt} {
		if f := real.Make(0, e); !one(f, 0) {
			t.Error("0", e, f)
		}
	}
}

// nearest is the float nearest to m * 2^e, as the library's fractions have it.
func nearest(m, e int) float64 {
	n, d := big.NewInt(int64(m)), big.NewInt(1)
	if e < 0 {
		d.Lsh(d, uint(-e))
	} else {
		n.Lsh(n, uint(e))
	}
	f, _ := new(big.Rat).SetFrac(n, d).Float64()
	if m < 0 {
		return math.Copysign(f, -1)
	}
	return f
}

func TestMakeNearest(t *testing.T) {
	r := rand.New(rand.NewSource(2))
	exps := []int{-1200, -1139, -1138, -1137, -1100, -1076, -1075, -1074, -1073, -1060, -1023, -1022, -1021, -600, -63, -1, 0, 1, 900, 959, 960, 961, 969, 970, 971, 972, 1000, 1023, 1024, 1100}
	for _, e := range exps {
		for range 300 {
			m := int(r.Uint64()) >> r.Intn(64)
			if r.Intn(2) == 0 { // bits in the middle that are often a half
				m = m >> r.Intn(62) << r.Intn(62)
			}
			if f, g := real.Make(m, e), nearest(m, e); !one(f, g) {
				t.Fatalf("%d * 2^%d: %x, not %x", m, e, f, g)
			}
		}
	}
}

// P1.3

func TestAheadAndSame(t *testing.T) {
	l := rising()
	for i, a := range l {
		for j, b := range l {
			if real.Ahead(a, b) != (i < j) || real.Same(a, b) != (i == j) {
				t.Error(a, b, real.Ahead(a, b), real.Same(a, b))
			}
		}
	}
	for _, a := range noNumbers() {
		for _, b := range noNumbers() {
			if real.Ahead(a, b) || !real.Same(a, b) {
				t.Errorf("%x %x", math.Float64bits(a), math.Float64bits(b))
			}
		}
		if real.Ahead(a, -inf) || real.Ahead(a, inf) || !real.Ahead(inf, a) || real.Same(a, 0) {
			t.Errorf("%x", math.Float64bits(a))
		}
	}
}

func TestSortShort(t *testing.T) {
	for _, c := range []struct{ l, want []float64 }{
		{nil, nil}, {[]float64{}, nil}, {[]float64{3}, []float64{3}}, {[]float64{2, 1}, []float64{1, 2}}, {[]float64{1, 2, 1}, []float64{1, 1, 2}},
		{[]float64{0, minusNull, 0, minusNull}, []float64{minusNull, minusNull, 0, 0}},
		{[]float64{math.NaN(), 0, inf, minusNull, -3, -inf}, []float64{-inf, -3, minusNull, 0, inf, math.NaN()}},
		{noNumbers(), noNumbers()},
	} {
		if s := real.Sort(c.l); !allOne(s, c.want) {
			t.Error(c.l, s)
		}
	}
}

func TestSortEveryOrder(t *testing.T) {
	want := []float64{-1, minusNull, 0, leastSmall, 2, math.NaN()}
	var all func(l []float64, n int)
	all = func(l []float64, n int) {
		if n == len(l) {
			if s := real.Sort(l); !allOne(s, want) {
				t.Error(l, s)
			}
			return
		}
		for i := n; i < len(l); i++ {
			l[n], l[i] = l[i], l[n]
			all(l, n+1)
			l[n], l[i] = l[i], l[n]
		}
	}
	all(slices.Clone(want), 0)
}

func TestSortLong(t *testing.T) {
	r := rand.New(rand.NewSource(3))
	base := rising()
	for n := range 70 {
		l := make([]float64, n)
		for i := range l {
			l[i] = base[r.Intn(len(base))]
		}
		want := slices.Clone(l)
		slices.SortFunc(want, func(a, b float64) int {
			return slices.IndexFunc(base, func(f float64) bool { return one(f, a) }) - slices.IndexFunc(base, func(f float64) bool { return one(f, b) })
		})
		if s := real.Sort(l); !allOne(s, want) {
			t.Error(l, s)
		}
	}
	down := make([]float64, 300001)
	for i := range down {
		down[i] = -float64(i)
	}
	s := real.Sort(down)
	for i := range s {
		if s[i] != float64(i-len(down)+1) {
			t.Fatal(i, s[i])
		}
	}
}

// R3: what is handed in is not changed, nor what lies behind its end, and what is answered is new.
func TestSortKeepsItsArgument(t *testing.T) {
	for _, l := range [][]float64{{3, 1, 2, 9, 8}, {1, 2, 3, 9, 8}} {
		was := slices.Clone(l)
		s := real.Sort(l[:3])
		if !allOne(l, was) {
			t.Error("changed", l)
		}
		s = append(s, 7)
		s[0], s[1], s[2] = 50, 51, 52
		if !allOne(l, was) {
			t.Error("shared", l)
		}
	}
	l := []float64{5}
	if s := real.Sort(l); &s[0] == &l[0] {
		t.Error("a list of one float is handed back")
	}
}

func TestEnds(t *testing.T) {
	for i, c := range []struct {
		l           []float64
		first, last float64
		n           int
	}{
		{nil, 0, 0, 0}, {noNumbers(), 0, 0, 0}, {[]float64{5}, 5, 5, 1}, {[]float64{-5}, -5, -5, 1}, {[]float64{2, 1, 3}, 1, 3, 3}, {[]float64{3, 2, 2}, 2, 3, 3},
		{[]float64{0, minusNull}, minusNull, 0, 2}, {[]float64{minusNull, 0}, minusNull, 0, 2}, {[]float64{minusNull}, minusNull, minusNull, 1}, {[]float64{0}, 0, 0, 1},
		{[]float64{math.NaN(), 7, math.NaN()}, 7, 7, 1}, {[]float64{math.NaN(), -7, math.NaN(), -8}, -8, -7, 2}, {[]float64{inf, -inf, 0}, -inf, inf, 3},
		{[]float64{inf}, inf, inf, 1}, {[]float64{-inf, math.NaN()}, -inf, -inf, 1}, {rising(), -inf, inf, len(rising()) - 1},
	} {
		if a, b, n := real.Ends(c.l); !one(a, c.first) || !one(b, c.last) || n != c.n {
			t.Error(i, a, b, n)
		}
	}
}

// P1.4

func TestPartsMake(t *testing.T) {
	for _, f := range append(rising(), anyFloats(20000)...) {
		if c := real.Class(f); c != api.ClassSmall && c != api.ClassFull {
			continue
		}
		m, e := real.Parts(f)
		if m%2 == 0 || !one(real.Make(m, e), f) {
			t.Fatalf("%x: %d %d", f, m, e)
		}
	}
}

func TestOrderIsOneOfAll(t *testing.T) {
	l := append(append(rising(), noNumbers()...), anyFloats(60)...)
	for _, a := range l {
		for _, b := range l {
			if real.Same(a, b) != one(a, b) {
				t.Fatal("same", a, b)
			}
			if n := count(real.Ahead(a, b), real.Ahead(b, a), real.Same(a, b)); n != 1 {
				t.Fatal("just one", a, b, n)
			}
			for _, c := range l {
				if real.Ahead(a, b) && real.Ahead(b, c) && !real.Ahead(a, c) {
					t.Fatal("ahead of what is ahead", a, b, c)
				}
			}
		}
	}
}

func count(l ...bool) int {
	n := 0
	for _, b := range l {
		if b {
			n++
		}
	}
	return n
}
