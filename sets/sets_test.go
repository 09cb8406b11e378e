package sets_test

import (
	"math/rand"
	"slices"
	"testing"

	"deckhand/sets"
)

const (
	most  = 1<<63 - 1
	least = -1 << 63
)

// anyList is a list of up to 12 small numbers, sometimes with the least and the greatest one.
func anyList(r *rand.Rand) []int {
	l := make([]int, r.Intn(13))
	for i := range l {
		l[i] = r.Intn(16) - 8
		switch r.Intn(12) {
		case 0:
			l[i] = most
		case 1:
			l[i] = least
		}
	}
	return l
}

// anySet is a set as the library has it.
func anySet(r *rand.Rand) []int {
	l := anyList(r)
	slices.Sort(l)
	return slices.Compact(l)
}

// roomy is a list with room behind its end, and numbers in that.
func roomy(l []int) []int {
	return append(slices.Clone(l), 77, 78, 79, 80)[:len(l)]
}

// kept tells whether a list made by roomy is as it was, with the room behind it.
func kept(l, was []int) bool {
	return slices.Equal(l[:len(l)+4], append(slices.Clone(was), 77, 78, 79, 80))
}

// spoil overwrites an answer and the room behind it.
func spoil(l []int) {
	l = l[:cap(l)]
	for i := range l {
		l[i] = 55
	}
}

// P4.1

func TestFrom(t *testing.T) {
	for _, c := range []struct{ l, want []int }{
		{nil, nil}, {[]int{}, nil}, {[]int{3, 1, 3}, []int{1, 3}}, {[]int{5}, []int{5}}, {[]int{5, 5}, []int{5}}, {[]int{1, 2, 3}, []int{1, 2, 3}}, {[]int{3, 2, 1}, []int{1, 2, 3}}, {[]int{0, -1}, []int{-1, 0}},
		{[]int{most, least, 0, most, least}, []int{least, 0, most}}, {[]int{1, 1, 1, 1, 1}, []int{1}}, {[]int{2, 1, 2, 1, 2}, []int{1, 2}},
	} {
		if s := sets.From(c.l); !slices.Equal(s, c.want) {
			t.Error(c.l, s)
		}
	}
}

func TestFromAnyList(t *testing.T) {
	r := rand.New(rand.NewSource(1))
	for range 20000 {
		l := anyList(r)
		want := slices.Clone(l)
		slices.Sort(want)
		if s := sets.From(l); !slices.Equal(s, slices.Compact(want)) {
			t.Fatal(l, s)
		}
	}
	for _, n := range []int{1000, 300001} {
		up, down, mixed := make([]int, n), make([]int, n), make([]int, n)
		for i := range n {
			up[i], down[n-1-i], mixed[i] = i, i, i*7919%n
		}
		for _, l := range [][]int{up, down, mixed, append(slices.Clone(down), up...)} {
			if s := sets.From(l); !slices.Equal(s, up) {
				t.Error(n, len(s))
			}
		}
	}
}

func TestRight(t *testing.T) {
	for _, l := range [][]int{nil, {}, {0}, {least}, {least, most}, {1, 2}, {-3, -2, 0, 9}, {most - 1, most}, {least, least + 1}} {
		if !sets.Right(l) {
			t.Error(l)
		}
	}
	for _, l := range [][]int{{0, 0}, {2, 1}, {1, 2, 2}, {1, 1, 2}, {1, 3, 2}, {2, 1, 3}, {most, least}, {least, least}, {most, most}, {1, 2, 3, 4, 4}, {0, least, most}} {
		if sets.Right(l) {
			t.Error(l)
		}
	}
}

func TestTwice(t *testing.T) {
	for _, c := range []struct {
		l  []int
		at int
	}{
		{nil, -1}, {[]int{}, -1}, {[]int{3}, -1}, {[]int{3, 1, 3}, 2}, {[]int{3, 3, 3}, 1}, {[]int{3, 1, 2}, -1}, {[]int{1, 2, 2, 1}, 2}, {[]int{1, 2, 1, 2}, 2}, {[]int{5, 4, 3, 2, 1, 5}, 5}, {[]int{0, 0}, 1}, {[]int{0}, -1},
		{[]int{most, least, -1, 0, least}, 4}, {[]int{most, least, most}, 2}, {[]int{most, least}, -1}, {[]int{-1, 1}, -1}, {[]int{9, 1, 2, 3, 3, 9}, 4}, {[]int{9, 1, 9, 3, 3}, 2},
	} {
		if at := sets.Twice(c.l); at != c.at {
			t.Error(c.l, at)
		}
	}
	r := rand.New(rand.NewSource(2))
	for range 20000 {
		l := anyList(r)
		want := -1
		for i := range l {
			if slices.Contains(l[:i], l[i]) {
				want = i
				break
			}
		}
		if at := sets.Twice(l); at != want {
			t.Fatal(l, at, want)
		}
	}
	long := make([]int, 300001)
	for i := range long {
		long[i] = -i
	}
	if at := sets.Twice(long); at != -1 {
		t.Error(at)
	}
	if at := sets.Twice(append(long, -7)); at != len(long) {
		t.Error(at)
	}
}

// P4.2

func TestHas(t *testing.T) {
	for n := range 40 {
		s := make([]int, n)
		for i := range s {
			s[i] = 2 * i
		}
		for m := -3; m < 2*n+3; m++ {
			if sets.Has(s, m) != slices.Contains(s, m) {
				t.Error(n, m)
			}
		}
	}
	ends := []int{least, -1, most}
	for _, n := range []int{least, -1, most} {
		if !sets.Has(ends, n) || sets.Has(nil, n) || sets.Has([]int{}, n) {
			t.Error(n)
		}
	}
	for _, n := range []int{least + 1, 0, most - 1} {
		if sets.Has(ends, n) {
			t.Error(n)
		}
	}
}

func TestOfTwo(t *testing.T) {
	for _, c := range []struct{ a, b, either, both, less []int }{
		{nil, nil, nil, nil, nil}, {[]int{}, nil, nil, nil, nil}, {[]int{1, 2}, nil, []int{1, 2}, nil, []int{1, 2}}, {nil, []int{1, 2}, []int{1, 2}, nil, nil}, {[]int{0}, []int{0}, []int{0}, []int{0}, nil},
		{[]int{1, 2, 3}, []int{1, 2, 3}, []int{1, 2, 3}, []int{1, 2, 3}, nil}, {[]int{1, 3, 5}, []int{2, 4}, []int{1, 2, 3, 4, 5}, nil, []int{1, 3, 5}}, {[]int{2, 4}, []int{1, 3, 5}, []int{1, 2, 3, 4, 5}, nil, []int{2, 4}},
		{[]int{1, 2, 3}, []int{2, 3, 4}, []int{1, 2, 3, 4}, []int{2, 3}, []int{1}}, {[]int{2, 3, 4}, []int{1, 2, 3}, []int{1, 2, 3, 4}, []int{2, 3}, []int{4}}, {[]int{1, 2}, []int{8, 9}, []int{1, 2, 8, 9}, nil, []int{1, 2}}, {[]int{8, 9}, []int{1, 2}, []int{1, 2, 8, 9}, nil, []int{8, 9}},
		{[]int{least, 0, most}, []int{least, most}, []int{least, 0, most}, []int{least, most}, []int{0}}, {[]int{least}, []int{most}, []int{least, most}, nil, []int{least}}, {[]int{5}, []int{1, 5, 9}, []int{1, 5, 9}, []int{5}, nil}, {[]int{1, 5, 9}, []int{5}, []int{1, 5, 9}, []int{5}, []int{1, 9}},
	} {
		if s := sets.Either(c.a, c.b); !slices.Equal(s, c.either) {
			t.Error("either", c.a, c.b, s)
		}
		if s := sets.Both(c.a, c.b); !slices.Equal(s, c.both) {
			t.Error("both", c.a, c.b, s)
		}
		if s := sets.Less(c.a, c.b); !slices.Equal(s, c.less) {
			t.Error("less", c.a, c.b, s)
		}
		if sets.Apart(c.a, c.b) != (len(c.both) == 0) {
			t.Error("apart", c.a, c.b)
		}
	}
}

// filtered is the numbers of all that there are which are in a and in b as in says.
func filtered(a, b []int, in func(a, b bool) bool) []int {
	var l []int
	for _, n := range append([]int{least, most}, slices.Concat(a, b)...) {
		if in(slices.Contains(a, n), slices.Contains(b, n)) {
			l = append(l, n)
		}
	}
	slices.Sort(l)
	return slices.Compact(l)
}

func TestOfTwoAnySets(t *testing.T) {
	r := rand.New(rand.NewSource(3))
	for range 20000 {
		a, b := anySet(r), anySet(r)
		both := filtered(a, b, func(a, b bool) bool { return a && b })
		if s := sets.Either(a, b); !slices.Equal(s, filtered(a, b, func(a, b bool) bool { return a || b })) {
			t.Fatal("either", a, b, s)
		}
		if s := sets.Both(a, b); !slices.Equal(s, both) {
			t.Fatal("both", a, b, s)
		}
		if s := sets.Less(a, b); !slices.Equal(s, filtered(a, b, func(a, b bool) bool { return a && !b })) {
			t.Fatal("less", a, b, s)
		}
		if sets.Apart(a, b) != (len(both) == 0) {
			t.Fatal("apart", a, b)
		}
		for n := -9; n < 9; n++ {
			if sets.Has(a, n) != slices.Contains(a, n) {
				t.Fatal("has", a, n)
			}
		}
	}
}

// Of lists that are no sets only this is promised: the calls end, and (R3) change nothing.
func TestNoSets(t *testing.T) {
	r := rand.New(rand.NewSource(4))
	for range 20000 {
		a, b := anyList(r), anyList(r)
		c, d := roomy(a), roomy(b)
		sets.Has(c, r.Intn(16)-8)
		sets.Either(c, d)
		sets.Both(c, d)
		sets.Less(c, d)
		sets.Apart(c, d)
		if !kept(c, a) || !kept(d, b) {
			t.Fatal("changed", c, a, d, b)
		}
	}
}

// R3: what is handed in is not changed, nor what lies behind its end, and what is answered is new.
func TestKeepsArguments(t *testing.T) {
	r := rand.New(rand.NewSource(5))
	for range 5000 {
		l, a, b := anyList(r), anySet(r), anySet(r)
		m, c, d := roomy(l), roomy(a), roomy(b)
		sets.Right(m)
		sets.Twice(m)
		sets.Has(c, r.Intn(16)-8)
		sets.Apart(c, d)
		for _, s := range [][]int{sets.From(m), sets.From(c), sets.Either(c, d), sets.Both(c, d), sets.Less(c, d)} {
			spoil(s)
		}
		if !kept(m, l) || !kept(c, a) || !kept(d, b) {
			t.Fatal("changed", m, l, c, a, d, b)
		}
	}
}

// P4.3

func TestWhatFollows(t *testing.T) {
	r := rand.New(rand.NewSource(6))
	for range 10000 {
		l := anyList(r)
		a, b := sets.From(l), anySet(r)
		either, both, less := sets.Either(a, b), sets.Both(a, b), sets.Less(b, a)
		for _, s := range [][]int{a, either, both, less} {
			if !sets.Right(s) {
				t.Fatal("no set", l, b, s)
			}
		}
		if len(either)+len(both) != len(a)+len(b) {
			t.Fatal("as many", a, b, either, both)
		}
		for n := -9; n < 9; n++ {
			if sets.Has(either, n) != (sets.Has(a, n) || sets.Has(less, n)) || sets.Has(a, n) && sets.Has(less, n) {
				t.Fatal("in one", n, a, b, either, less)
			}
			if sets.Has(a, n) != slices.Contains(l, n) {
				t.Fatal("in the list", n, l, a)
			}
		}
		if (sets.Twice(l) == -1) != (len(a) == len(l)) {
			t.Fatal("twice", l, a)
		}
		if sets.Apart(a, b) != (len(both) == 0) {
			t.Fatal("apart", a, b, both)
		}
	}
}
