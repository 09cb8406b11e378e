package num_test

import (
	"math/big"
	"math/rand"
	"slices"
	"strconv"
	"strings"
	"testing"

	"deckhand/api"
	"deckhand/num"
)

const (
	most  = 1<<63 - 1
	least = -1 << 63
)

// edges is numbers at which something begins or ends.
func edges() []int {
	l := []int{most, least, most - 1, least + 1, most / 2, least / 2, most/2 + 1, least/2 - 1, 3037000499, 3037000500, -3037000499, -3037000500}
	for i := range 63 {
		l = append(l, 1<<i, -1<<i, 1<<i-1, 1-1<<i, 1<<i+1, -1<<i-1)
	}
	return append(l, 0, 3, -3, 10, -10, 7, -7)
}

// anyNumber is a number of any size.
func anyNumber(r *rand.Rand) int { return int(r.Uint64()) >> r.Intn(64) }

// told holds what was answered against what is so: a number, or ErrOver beside 0.
func told(t *testing.T, what string, n int, e api.Errno, want *big.Int) {
	t.Helper()
	if want.IsInt64() && (e != api.OK || int64(n) != want.Int64()) || !want.IsInt64() && (e != api.ErrOver || n != 0) {
		t.Fatal(what, n, e, "not", want)
	}
}

func wide(n int) *big.Int { return big.NewInt(int64(n)) }

// P3.1

func TestAddSubMul(t *testing.T) {
	for _, c := range []struct {
		what string
		f    func(a, b int) (int, api.Errno)
		a, b int
		n    int
		e    api.Errno
	}{
		{"add", num.Add, 2, 3, 5, api.OK}, {"add", num.Add, 2, -3, -1, api.OK}, {"add", num.Add, most, 0, most, api.OK}, {"add", num.Add, most - 1, 1, most, api.OK}, {"add", num.Add, most, least, -1, api.OK},
		{"add", num.Add, most, 1, 0, api.ErrOver}, {"add", num.Add, 1, most, 0, api.ErrOver}, {"add", num.Add, most, most, 0, api.ErrOver}, {"add", num.Add, least, -1, 0, api.ErrOver}, {"add", num.Add, least, least, 0, api.ErrOver}, {"add", num.Add, least + 1, -1, least, api.OK},
		{"sub", num.Sub, 2, 3, -1, api.OK}, {"sub", num.Sub, 0, most, -most, api.OK}, {"sub", num.Sub, -1, most, least, api.OK}, {"sub", num.Sub, -1, least, most, api.OK}, {"sub", num.Sub, least, least, 0, api.OK}, {"sub", num.Sub, most, most, 0, api.OK},
		{"sub", num.Sub, 0, least, 0, api.ErrOver}, {"sub", num.Sub, -2, most, 0, api.ErrOver}, {"sub", num.Sub, least, 1, 0, api.ErrOver}, {"sub", num.Sub, most, -1, 0, api.ErrOver}, {"sub", num.Sub, most, least, 0, api.ErrOver},
		{"mul", num.Mul, 6, -7, -42, api.OK}, {"mul", num.Mul, 0, least, 0, api.OK}, {"mul", num.Mul, least, 0, 0, api.OK}, {"mul", num.Mul, 1, least, least, api.OK}, {"mul", num.Mul, least, 1, least, api.OK}, {"mul", num.Mul, -1, most, -most, api.OK}, {"mul", num.Mul, most, -1, -most, api.OK},
		{"mul", num.Mul, -1, least, 0, api.ErrOver}, {"mul", num.Mul, least, -1, 0, api.ErrOver}, {"mul", num.Mul, 1 << 31, 1 << 32, 0, api.ErrOver}, {"mul", num.Mul, -1 << 31, 1 << 32, least, api.OK}, {"mul", num.Mul, 1 << 32, 1 << 32, 0, api.ErrOver}, {"mul", num.Mul, 3037000500, 3037000500, 0, api.ErrOver}, {"mul", num.Mul, 3037000499, 3037000499, 9223372030926249001, api.OK},
		{"mul", num.Mul, least, 2, 0, api.ErrOver}, {"mul", num.Mul, most, 2, 0, api.ErrOver}, {"mul", num.Mul, most, most, 0, api.ErrOver}, {"mul", num.Mul, least, least, 0, api.ErrOver},
	} {
		if n, e := c.f(c.a, c.b); n != c.n || e != c.e {
			t.Error(c.what, c.a, c.b, n, e)
		}
	}
}

func TestAddSubMulExactly(t *testing.T) {
	check := func(a, b int) {
		t.Helper()
		n, e := num.Add(a, b)
		told(t, "add", n, e, new(big.Int).Add(wide(a), wide(b)))
		n, e = num.Sub(a, b)
		told(t, "sub", n, e, new(big.Int).Sub(wide(a), wide(b)))
		n, e = num.Mul(a, b)
		told(t, "mul", n, e, new(big.Int).Mul(wide(a), wide(b)))
	}
	for _, a := range edges() {
		for _, b := range edges() {
			check(a, b)
		}
	}
	r := rand.New(rand.NewSource(1))
	for range 50000 {
		check(anyNumber(r), anyNumber(r))
	}
}

func TestSum(t *testing.T) {
	for i, c := range []struct {
		l []int
		n int
		e api.Errno
	}{
		{nil, 0, api.OK}, {[]int{}, 0, api.OK}, {[]int{5}, 5, api.OK}, {[]int{most}, most, api.OK}, {[]int{least}, least, api.OK}, {[]int{1, 2, -4}, -1, api.OK}, {[]int{0, 0}, 0, api.OK}, {[]int{-1, 1}, 0, api.OK}, {[]int{-1, -1}, -2, api.OK},
		// Beyond on the way, and back.
		{[]int{most, 1, -1}, most, api.OK}, {[]int{least, -1, 1}, least, api.OK}, {[]int{most, most, most, least, least, least}, -3, api.OK}, {[]int{least, least, most, most}, -2, api.OK}, {[]int{most, most, 2, least, least}, 0, api.OK},
		// Beyond at the end; also where as many were added as to come round to where it began.
		{[]int{most, 1}, 0, api.ErrOver}, {[]int{least, -1}, 0, api.ErrOver}, {[]int{most, 1, -1, 1}, 0, api.ErrOver}, {[]int{most, most}, 0, api.ErrOver}, {[]int{least, least}, 0, api.ErrOver}, {[]int{most, most, 2}, 0, api.ErrOver}, {[]int{least, least, 5}, 0, api.ErrOver}, {[]int{least, least, least, least}, 0, api.ErrOver},
		{[]int{most, most, 2, most, most, 2}, 0, api.ErrOver}, {[]int{least, most, 1, most, 1}, 0, api.ErrOver},
	} {
		was := slices.Clone(c.l)
		if n, e := num.Sum(c.l); n != c.n || e != c.e {
			t.Error(i, c.l, n, e)
		}
		if !slices.Equal(c.l, was) {
			t.Error(i, "changed", c.l)
		}
	}
}

func TestSumExactly(t *testing.T) {
	r := rand.New(rand.NewSource(2))
	for range 20000 {
		want := new(big.Int)
		l := make([]int, r.Intn(9))
		for i := range l {
			l[i] = anyNumber(r)
			if r.Intn(3) == 0 {
				l[i] = edges()[r.Intn(12)]
			}
			want.Add(want, wide(l[i]))
		}
		n, e := num.Sum(l)
		told(t, "sum", n, e, want)
	}
	l := make([]int, 100000)
	for _, n := range []int{most, least} {
		for i := range l {
			l[i] = n
		}
		if n, e := num.Sum(l); n != 0 || e != api.ErrOver {
			t.Error(n, e)
		}
	}
}

// P3.2

func TestBetween(t *testing.T) {
	for _, c := range []struct{ n, low, high, want int }{
		{5, 1, 9, 5}, {0, 1, 9, 1}, {10, 1, 9, 9}, {1, 1, 9, 1}, {9, 1, 9, 9}, {-5, -9, -1, -5}, {3, 3, 3, 3}, {2, 3, 3, 3}, {4, 3, 3, 3},
		{most, 1, 9, 9}, {least, 1, 9, 1}, {most, least, most, most}, {least, least, most, least}, {0, most, most, most}, {0, least, least, least},
		// The high one is below the low one.
		{0, 9, 1, 9}, {5, 9, 1, 9}, {8, 9, 1, 9}, {9, 9, 1, 1}, {10, 9, 1, 1}, {0, most, least, most}, {most, most, least, least}, {1, 9, 1, 9},
	} {
		if n := num.Between(c.n, c.low, c.high); n != c.want {
			t.Error(c, n)
		}
	}
}

func TestMod(t *testing.T) {
	for _, c := range []struct{ n, m, want int }{
		{7, 3, 1}, {-7, 3, 2}, {6, 3, 0}, {-6, 3, 0}, {0, 3, 0}, {-1, 3, 2}, {2, 3, 2}, {5, 1, 0}, {-5, 1, 0},
		{most, most, 0}, {-most, most, 0}, {least, most, most - 1}, {most, 2, 1}, {least, 2, 0}, {least, 3, 1}, {-1, most, most - 1}, {least, 1, 0}, {most - 1, most, most - 1},
		// No m.
		{7, 0, 0}, {-7, 0, 0}, {7, -1, 0}, {7, -3, 0}, {-7, -3, 0}, {least, -1, 0}, {least, least, 0}, {most, least, 0}, {1, least, 0},
	} {
		if n := num.Mod(c.n, c.m); n != c.want {
			t.Error(c, n)
		}
	}
}

func TestModDiffersByMultiple(t *testing.T) {
	for _, n := range edges() {
		for _, m := range edges() {
			want := int64(0)
			if m >= 1 {
				want = new(big.Int).Mod(wide(n), wide(m)).Int64()
			}
			if got := num.Mod(n, m); int64(got) != want {
				t.Fatal(n, m, got)
			}
		}
	}
}

// P3.3

func TestShare(t *testing.T) {
	for _, c := range []struct{ n, parts, i, want int }{
		{10, 4, 0, 2}, {10, 4, 1, 3}, {10, 4, 2, 2}, {10, 4, 3, 3}, {0, 4, 0, 0}, {3, 4, 0, 0}, {3, 4, 3, 1}, {7, 1, 0, 7}, {8, 4, 2, 2},
		// At the limits.
		{api.MaxNano, 1, 0, api.MaxNano}, {api.MaxNano, 65536, 0, 1 << 24}, {api.MaxNano, 65536, 65535, 1 << 24}, {api.MaxNano - 1, 65536, 65535, 1 << 24}, {api.MaxNano - 1, 65536, 0, 1<<24 - 1}, {1, 65536, 65535, 1}, {1, 65536, 65534, 0},
		{api.MaxNano, 3, 0, 366503875925}, {api.MaxNano, 3, 2, 366503875926},
		// Beyond them.
		{-1, 4, 3, 0}, {-4, 4, 0, 0}, {api.MaxNano + 1, 1, 0, 0}, {api.MaxNano + 4, 4, 0, 0}, {most, 2, 0, 0}, {least, 2, 0, 0},
		{10, 0, 0, 0}, {10, -1, 0, 0}, {10, -4, -5, 0}, {10, least, 0, 0}, {api.MaxNano, 65537, 0, 0}, {api.MaxNano, 65537, 65536, 0}, {10, most, 1, 0},
		{10, 4, -1, 0}, {10, 4, 4, 0}, {10, 4, 5, 0}, {10, 4, most, 0}, {10, 4, least, 0}, {api.MaxNano, 65536, 65536, 0}, {7, 1, 1, 0},
	} {
		if n := num.Share(c.n, c.parts, c.i); n != c.want {
			t.Error(c, n)
		}
	}
}

// P3.3 and P3.5: each part is what the floors say, and the parts together are the whole.
func TestShares(t *testing.T) {
	r := rand.New(rand.NewSource(3))
	for _, parts := range []int{1, 2, 3, 7, 10, 96, 384, 65535, 65536} {
		for _, n := range []int{0, 1, parts - 1, parts, parts + 1, api.MaxNano - 1, api.MaxNano, r.Intn(api.MaxNano), r.Intn(1000)} {
			sum := 0
			for i := range parts {
				s := num.Share(n, parts, i)
				if s != n/parts && s != n/parts+1 {
					t.Fatal(n, parts, i, s)
				}
				sum += s
				upTo := new(big.Int).Mul(wide(n), wide(i+1))
				if wide(sum).Cmp(upTo.Div(upTo, wide(parts))) != 0 {
					t.Fatal("up to", n, parts, i, sum)
				}
			}
			if sum != n {
				t.Fatal(n, parts, sum)
			}
		}
	}
}

// P3.4

func TestText(t *testing.T) {
	for _, c := range []struct {
		n int
		s string
	}{
		{0, "0"}, {1, "1"}, {-1, "-1"}, {9, "9"}, {10, "10"}, {-10, "-10"}, {100, "100"}, {1234567890, "1234567890"}, {-907, "-907"},
		{most, "9223372036854775807"}, {most - 1, "9223372036854775806"}, {least, "-9223372036854775808"}, {least + 1, "-9223372036854775807"}, {1000000000000000000, "1000000000000000000"}, {-1000000000000000000, "-1000000000000000000"},
	} {
		if s := num.Text(c.n); s != c.s {
			t.Error(c.n, s)
		}
		if n, e := num.Parse(c.s); n != c.n || e != api.OK {
			t.Error(c.s, n, e)
		}
	}
}

func TestParseRefuses(t *testing.T) {
	for _, s := range []string{
		"", "-", "--", "+", "+1", "+0", "-+1", "+-1", "--1", "-0", "00", "-00", "01", "-01", "007", "0000000000000000000", "0000000000000000001", "00000000000000000001", "-0000000000000000001",
		"9223372036854775808", "-9223372036854775809", "9223372036854775810", "9999999999999999999", "-9999999999999999999", "10000000000000000000", "-10000000000000000000",
		"18446744073709551615", "18446744073709551616", "18446744073709551617", "-18446744073709551615", "-18446744073709551617", "340282366920938463463374607431768211457", "99999999999999999999",
		" 1", "1 ", "1 2", "\t1", "1\n", "1-", "1-1", "-1-", "1.0", "1.", ".1", "1e3", "1_000", "1,000", "0x10", "x", "a1", "1a", "/", ":", "1/", "1:", "\x00", "1\x00", "\xff", "1\xb2", "²", "١", "１", "−1", "NaN", "- 1",
		strings.Repeat("1", 1<<16), strings.Repeat("0", 1<<16), "-" + strings.Repeat("9", 1<<16),
	} {
		if n, e := num.Parse(s); n != 0 || e != api.ErrText {
			t.Errorf("%q: %d %d", s, n, e)
		}
	}
}

// All short texts of signs that a number's text may have, and of some beside them, as the library has it.
func TestParseShortTexts(t *testing.T) {
	texts := []string{""}
	for range 4 {
		for _, s := range texts {
			want, err := strconv.Atoi(s)
			if err != nil || strconv.Itoa(want) != s {
				if n, e := num.Parse(s); n != 0 || e != api.ErrText {
					t.Fatalf("%q: %d %d", s, n, e)
				}
			} else if n, e := num.Parse(s); n != want || e != api.OK {
				t.Fatalf("%q: %d %d", s, n, e)
			}
		}
		var longer []string
		for _, s := range texts {
			for _, c := range "-+ 01289/:" {
				longer = append(longer, s+string(c))
			}
		}
		texts = longer
	}
}

// P3.5

func TestParseText(t *testing.T) {
	check := func(n int) {
		t.Helper()
		s := num.Text(n)
		if s != strconv.Itoa(n) {
			t.Fatal(n, s)
		}
		m, e := num.Parse(s)
		if m != n || e != api.OK || num.Text(m) != s {
			t.Fatal(n, s, m, e)
		}
	}
	for _, n := range edges() {
		check(n)
	}
	for p := 1; p <= 1000000000000000000/10; p *= 10 {
		for d := -2; d <= 2; d++ {
			check(p + d)
			check(-p + d)
		}
	}
	r := rand.New(rand.NewSource(4))
	for range 50000 {
		check(anyNumber(r))
	}
}
