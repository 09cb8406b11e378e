package nano_test

import (
	"math"
	"math/big"
	"math/rand"
	"slices"
	"testing"

	"deckhand/api"
	"deckhand/nano"
)

var (
	minusNull = math.Copysign(0, -1)
	inf       = math.Inf(1)
)

const most = float64(api.MaxNano) / 1000

// P2.1

func TestOf(t *testing.T) {
	for _, c := range []struct {
		f float64
		n int
	}{
		{0, 0}, {minusNull, 0}, {2.5, 2500}, {1, 1000}, {0.001, 1}, {1e9, 1e12}, {1099511627, 1099511627000}, {0.3, 300}, {123456.789, 123456789},
		// This float lies above the half.
		{0.0005, 1}, {math.Nextafter(0.0005, 0), 0},
		// Halves, to the even one; and a hair beside them.
		{0.0625, 62}, {0.1875, 188}, {0.3125, 312}, {0.4375, 438}, {1000.0625, 1000062}, {1000.1875, 1000188},
		{math.Nextafter(0.0625, 1), 63}, {math.Nextafter(0.0625, 0), 62}, {math.Nextafter(0.1875, 0), 187}, {math.Nextafter(0.1875, 1), 188},
		// Next to nothing.
		{0x1p-1074, 0}, {0x1p-1022 - 0x1p-1074, 0}, {0x1p-1022, 0}, {0x1p-63, 0}, {0x1.fffffffffffffp-12, 0}, {0x1p-11, 0}, {0x1p-10, 1}, {0x1p-9, 2},
		// The most.
		{most, api.MaxNano}, {math.Nextafter(most, inf), api.MaxNano}, {float64(api.MaxNano-1) / 1000, api.MaxNano - 1},
	} {
		if n, e := nano.Of(c.f); n != c.n || e != api.OK {
			t.Errorf("%v: %d %d, not %d", c.f, n, e, c.n)
		}
	}
}

func TestOfRefuses(t *testing.T) {
	for _, c := range []struct {
		f float64
		e api.Errno
	}{
		{math.NaN(), api.ErrNaN}, {math.Float64frombits(0xFFF8000000000000), api.ErrNaN}, {math.Float64frombits(0x7FF0000000000001), api.ErrNaN}, {math.Float64frombits(0xFFFFFFFFFFFFFFFF), api.ErrNaN},
		{inf, api.ErrInf}, {-inf, api.ErrInf},
		{-0x1p-1074, api.ErrBelow}, {-0x1p-1022, api.ErrBelow}, {-0.0001, api.ErrBelow}, {-1, api.ErrBelow}, {-math.MaxFloat64, api.ErrBelow},
		{float64(api.MaxNano+1) / 1000, api.ErrOver}, {1099511628, api.ErrOver}, {1 << 31, api.ErrOver}, {1 << 40, api.ErrOver}, {1 << 41, api.ErrOver}, {1<<53 - 1, api.ErrOver}, {1 << 53, api.ErrOver}, {1<<54 - 2, api.ErrOver},
		{1 << 61, api.ErrOver}, {1 << 62, api.ErrOver}, {1 << 63, api.ErrOver}, {1 << 64, api.ErrOver}, {0x1p100, api.ErrOver}, {0x1p1023, api.ErrOver}, {math.MaxFloat64, api.ErrOver},
	} {
		if n, e := nano.Of(c.f); n != 0 || e != c.e {
			t.Errorf("%v: %d %d, not %d", c.f, n, e, c.e)
		}
	}
}

// nearest is the whole number nearest to f * 1000, of two that are as near the even one, as the library's fractions have it.
func nearest(f float64) *big.Int {
	r := new(big.Rat).SetFloat64(f)
	r.Mul(r, big.NewRat(1000, 1))
	n, rest := new(big.Int).DivMod(r.Num(), r.Denom(), new(big.Int))
	c := rest.Lsh(rest, 1).Cmp(r.Denom())
	if c > 0 || c == 0 && n.Bit(0) == 1 {
		n.Add(n, big.NewInt(1))
	}
	return n
}

// volumes is floats from 0 on, of all sizes, many of them near halves, none of them a no-number or an infinity.
func volumes() []float64 {
	r := rand.New(rand.NewSource(1))
	var l []float64
	for e := -70; e < 70; e++ {
		for range 40 {
			l = append(l, math.Ldexp(1+r.Float64(), e), math.Ldexp(float64(r.Intn(64)), e))
		}
	}
	for range 4000 {
		half := (float64(r.Intn(1<<r.Intn(41))) + 0.5) / 1000
		l = append(l, half, math.Nextafter(half, 0), math.Nextafter(half, inf), float64(r.Intn(1<<33))/16)
	}
	edge := (float64(api.MaxNano) + 0.5) / 1000
	for range 6 {
		edge = math.Nextafter(edge, 0)
	}
	for range 12 {
		l = append(l, edge)
		edge = math.Nextafter(edge, inf)
	}
	return append(l, 0, minusNull, 0x1p-1074, 0x1p-1022, most, math.MaxFloat64)
}

func TestOfIsNearest(t *testing.T) {
	for _, f := range volumes() {
		want, err := nearest(f), api.OK
		if want.Cmp(big.NewInt(api.MaxNano)) > 0 {
			want, err = new(big.Int), api.ErrOver
		}
		if n, e := nano.Of(f); int64(n) != want.Int64() || e != err {
			t.Fatalf("%x: %d %d, not %v %d", f, n, e, want, err)
		}
	}
}

// P2.2

func TestMicro(t *testing.T) {
	for _, c := range []struct {
		n int
		f float64
	}{
		{1, 0.001}, {1500, 1.5}, {2500, 2.5}, {999, 0.999}, {1000, 1}, {api.MaxNano, 1099511627.776}, {api.MaxNano + 1, 1099511627.777},
		{1 << 53, 9007199254740.992}, {1<<53 - 1, 9007199254740.991},
	} {
		if f, g := nano.Micro(c.n), nano.Micro(-c.n); f != c.f || g != -c.f {
			t.Error(c.n, f, g)
		}
	}
	if f := nano.Micro(0); f != 0 || math.Signbit(f) {
		t.Error("0", f)
	}
	for _, n := range []int{1<<53 + 1, 1<<53 + 2, 1 << 60, 1<<63 - 1} {
		if f, g := nano.Micro(n), nano.Micro(-n); !math.IsNaN(f) || !math.IsNaN(g) {
			t.Error(n, f, g)
		}
	}
	if f := nano.Micro(-1 << 63); !math.IsNaN(f) {
		t.Error(f)
	}
}

func TestMicroIsNearest(t *testing.T) {
	r := rand.New(rand.NewSource(2))
	for i := range 40000 {
		n := i - 20000
		if i%2 == 0 {
			n = r.Intn(1<<53+1) >> r.Intn(54) * (1 - 2*r.Intn(2))
		}
		want, _ := big.NewRat(int64(n), 1000).Float64()
		if f := nano.Micro(n); math.Float64bits(f) != math.Float64bits(want) {
			t.Fatal(n, f, want)
		}
	}
}

// P2.3

func TestSum(t *testing.T) {
	third := float64(1<<38) / 1000
	for i, c := range []struct {
		l []float64
		n int
		e api.Errno
	}{
		{nil, 0, api.OK}, {[]float64{}, 0, api.OK}, {[]float64{2.5}, 2500, api.OK}, {[]float64{1, 0.001, 2}, 3001, api.OK}, {[]float64{0, minusNull}, 0, api.OK},
		// Each is rounded by itself.
		{[]float64{0.0625, 0.0625}, 124, api.OK}, {[]float64{0.1875, 0.1875}, 376, api.OK}, {[]float64{0.0004, 0.0004, 0.0004}, 0, api.OK},
		// At the most, and above it.
		{[]float64{most}, api.MaxNano, api.OK}, {[]float64{most, 0, minusNull, 0.0001}, api.MaxNano, api.OK}, {[]float64{third, third, third, third}, api.MaxNano, api.OK},
		{[]float64{float64(api.MaxNano-1) / 1000, 0.001}, api.MaxNano, api.OK}, {[]float64{most, 0.001}, 0, api.ErrOver}, {[]float64{third, third, third, third, 0.001}, 0, api.ErrOver}, {[]float64{0.001, most}, 0, api.ErrOver}, {[]float64{most, most}, 0, api.ErrOver},
		// The first that is refused.
		{[]float64{math.NaN()}, 0, api.ErrNaN}, {[]float64{1, inf, math.NaN()}, 0, api.ErrInf}, {[]float64{1, -inf}, 0, api.ErrInf}, {[]float64{1, math.NaN(), -1}, 0, api.ErrNaN}, {[]float64{-1, math.NaN()}, 0, api.ErrBelow}, {[]float64{3, -0x1p-1074, inf}, 0, api.ErrBelow},
		{[]float64{math.MaxFloat64, math.NaN()}, 0, api.ErrOver},
		// As soon as the sum is above the most, whatever stands behind; not ahead of that.
		{[]float64{most, 1, math.NaN()}, 0, api.ErrOver}, {[]float64{most, 1, -1}, 0, api.ErrOver}, {[]float64{most, math.NaN(), 1}, 0, api.ErrNaN}, {[]float64{most, -1, 1}, 0, api.ErrBelow}, {[]float64{most, -inf}, 0, api.ErrInf},
	} {
		was := slices.Clone(c.l)
		if n, e := nano.Sum(c.l); n != c.n || e != c.e {
			t.Error(i, c.l, n, e)
		}
		if !slices.EqualFunc(c.l, was, func(a, b float64) bool { return math.Float64bits(a) == math.Float64bits(b) }) {
			t.Error(i, "changed", c.l)
		}
	}
}

// P2.4

func TestOfMicro(t *testing.T) {
	check := func(n int) {
		if m, e := nano.Of(nano.Micro(n)); m != n || e != api.OK {
			t.Fatal(n, m, e)
		}
	}
	for n := range 50000 {
		check(n)
		check(api.MaxNano - n)
		check(api.MaxNano/50000*n + n%7)
	}
	for n := 1; n <= api.MaxNano; n *= 2 {
		check(n - 1)
		check(n)
	}
}

func TestGreaterHasNoLess(t *testing.T) {
	l := volumes()
	slices.Sort(l)
	last, over := 0, false
	for _, f := range l {
		n, e := nano.Of(f)
		if e == api.ErrOver {
			over = true
			continue
		}
		if e != api.OK || over || n < last {
			t.Fatal(f, n, e, last)
		}
		last = n
	}
}
