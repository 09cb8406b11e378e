package span_test

import (
	"math/big"
	"math/rand"
	"slices"
	"testing"

	"deckhand/api"
	"deckhand/span"
)

const (
	most  = 1<<63 - 1
	least = -1 << 63
)

// sp is the span from lo to hi.
func sp(lo, hi int) api.Span { return api.Span{Lo: lo, Hi: hi} }

// sps is spans, from and to by turns.
func sps(ends ...int) []api.Span {
	var l []api.Span
	for i := 0; i < len(ends); i += 2 {
		l = append(l, sp(ends[i], ends[i+1]))
	}
	return l
}

// none is the empty span that is answered.
var none = sp(0, -1)

// empties are spans without a number.
var empties = []api.Span{sp(0, -1), sp(1, 0), sp(5, 4), sp(5, -5), sp(most, least), sp(most, most-1), sp(least+1, least), sp(0, least), sp(most, 0)}

// edges are numbers at which a span may begin and end, in order.
var edges = []int{least, least + 1, least + 2, -3, -2, -1, 0, 1, 2, 3, 4, most - 2, most - 1, most}

// allSpans are all spans between the edges, empty ones too.
func allSpans() []api.Span {
	var l []api.Span
	for _, lo := range edges {
		for _, hi := range edges {
			l = append(l, sp(lo, hi))
		}
	}
	return l
}

// anySpans are up to 7 spans of small numbers, sometimes up to the least or the greatest one, sometimes empty.
func anySpans(r *rand.Rand) []api.Span {
	l := make([]api.Span, r.Intn(8))
	for i := range l {
		lo := r.Intn(24) - 12
		l[i] = sp(lo, lo+r.Intn(6)-1)
		switch r.Intn(24) {
		case 0:
			l[i].Lo = least
		case 1:
			l[i].Hi = most
		case 2:
			l[i] = sp(most-r.Intn(3), most-r.Intn(3))
		case 3:
			l[i] = sp(least+r.Intn(3), least+r.Intn(3))
		}
	}
	return l
}

// within tells whether a number is in a span, as the document has it.
func within(s api.Span, n int) bool { return n >= s.Lo && n <= s.Hi }

// withinOne tells in how many of the spans a number is.
func withinOne(l []api.Span, n int) int {
	in := 0
	for _, s := range l {
		if within(s, n) {
			in++
		}
	}
	return in
}

// looked are all numbers at which something may begin or end in tests of small spans.
func looked() []int {
	l := []int{}
	for n := -20; n <= 20; n++ {
		l = append(l, n)
	}
	for n := range 6 {
		l = append(l, least+n, most-n)
	}
	return l
}

// apart tells whether spans have numbers, rise, and have a number between each two.
func apart(l []api.Span) bool {
	for i, s := range l {
		if s.Lo > s.Hi || i > 0 && (l[i-1].Hi >= s.Lo || l[i-1].Hi+1 == s.Lo) {
			return false
		}
	}
	return true
}

// P5.1

func TestLen(t *testing.T) {
	for _, c := range []struct {
		s    api.Span
		want int
	}{
		{sp(0, 0), 1}, {sp(0, 9), 10}, {sp(-3, 3), 7}, {sp(5, 7), 3}, {sp(most, most), 1}, {sp(least, least), 1}, {sp(most-1, most), 2}, {sp(least, least+1), 2},
		{sp(1, most), most}, {sp(2, most), most - 1}, {sp(0, most), most}, {sp(-1, most), most}, {sp(least, most), most}, {sp(least, -2), most}, {sp(least, -1), most}, {sp(least, -3), most - 1}, {sp(least, 0), most}, {sp(-1, most-2), most}, {sp(-1, most-3), most - 1},
	} {
		if n := span.Len(c.s); n != c.want {
			t.Error(c.s, n)
		}
	}
	for _, s := range empties {
		if n := span.Len(s); n != 0 {
			t.Error(s, n)
		}
	}
	for _, s := range allSpans() {
		want := new(big.Int).Sub(big.NewInt(int64(s.Hi)), big.NewInt(int64(s.Lo)))
		want.Add(want, big.NewInt(1))
		switch {
		case want.Sign() < 0:
			want = big.NewInt(0)
		case want.Cmp(big.NewInt(most)) > 0:
			want = big.NewInt(most)
		}
		if n := span.Len(s); int64(n) != want.Int64() {
			t.Error(s, n, want)
		}
	}
}

func TestHas(t *testing.T) {
	for _, c := range []struct {
		s    api.Span
		n    int
		want bool
	}{
		{sp(3, 5), 2, false}, {sp(3, 5), 3, true}, {sp(3, 5), 4, true}, {sp(3, 5), 5, true}, {sp(3, 5), 6, false}, {sp(3, 3), 3, true}, {sp(least, most), 0, true}, {sp(least, most), least, true}, {sp(least, most), most, true},
		{sp(least, least), most, false}, {sp(most, most), least, false}, {sp(5, 3), 4, false}, {sp(5, 3), 5, false}, {sp(5, 3), 3, false}, {none, 0, false}, {none, -1, false}, {sp(most, least), 0, false},
	} {
		if has := span.Has(c.s, c.n); has != c.want {
			t.Error(c.s, c.n, has)
		}
	}
	for _, s := range allSpans() {
		for _, n := range edges {
			if span.Has(s, n) != within(s, n) {
				t.Error(s, n)
			}
		}
	}
}

func TestMeetsAndCut(t *testing.T) {
	for _, c := range []struct {
		a, b, want api.Span
	}{
		{sp(1, 5), sp(3, 9), sp(3, 5)}, {sp(1, 5), sp(5, 9), sp(5, 5)}, {sp(1, 9), sp(3, 4), sp(3, 4)}, {sp(1, 4), sp(5, 9), none}, {sp(1, 2), sp(8, 9), none}, {sp(2, 3), sp(2, 3), sp(2, 3)},
		{sp(least, most), sp(3, 4), sp(3, 4)}, {sp(least, 0), sp(0, most), sp(0, 0)}, {sp(least, -1), sp(0, most), none}, {sp(least, least), sp(most, most), none}, {sp(least, most), sp(most, most), sp(most, most)}, {sp(-1, 0), sp(0, 1), sp(0, 0)}, {sp(-1, 0), sp(-2, -1), sp(-1, -1)},
		{sp(5, 3), sp(0, 9), none}, {sp(0, 9), sp(5, 3), none}, {sp(5, 3), sp(5, 3), none}, {none, none, none}, {sp(most, least), sp(least, most), none},
	} {
		for _, p := range [][2]api.Span{{c.a, c.b}, {c.b, c.a}} {
			if cut := span.Cut(p[0], p[1]); cut != c.want {
				t.Error("Cut", p, cut)
			}
			if meets := span.Meets(p[0], p[1]); meets != (c.want != none) {
				t.Error("Meets", p, meets)
			}
		}
	}
	for _, a := range allSpans() {
		for _, b := range allSpans() {
			cut, meets := span.Cut(a, b), false
			for _, n := range edges {
				both := within(a, n) && within(b, n)
				if both != within(cut, n) {
					t.Fatal(a, b, cut, n)
				}
				meets = meets || both
			}
			if span.Meets(a, b) != meets || !meets && cut != none {
				t.Fatal(a, b, cut)
			}
		}
	}
}

func TestHull(t *testing.T) {
	for _, c := range []struct {
		a, b, want api.Span
	}{
		{sp(1, 5), sp(3, 9), sp(1, 9)}, {sp(1, 2), sp(8, 9), sp(1, 9)}, {sp(1, 9), sp(3, 4), sp(1, 9)}, {sp(2, 3), sp(2, 3), sp(2, 3)}, {sp(least, least), sp(most, most), sp(least, most)}, {sp(0, 0), sp(-1, -1), sp(-1, 0)},
		{sp(5, 3), sp(8, 9), sp(8, 9)}, {none, sp(8, 9), sp(8, 9)}, {sp(most, least), sp(3, 4), sp(3, 4)}, {sp(-9, -10), sp(3, 4), sp(3, 4)}, {sp(20, 19), sp(3, 4), sp(3, 4)},
		{sp(5, 3), sp(9, 8), none}, {none, none, none}, {sp(9, 8), none, none}, {sp(most, least), sp(5, 4), none}, {sp(3, 2), sp(3, 2), none},
	} {
		for _, p := range [][2]api.Span{{c.a, c.b}, {c.b, c.a}} {
			if hull := span.Hull(p[0], p[1]); hull != c.want {
				t.Error(p, hull)
			}
		}
	}
}

// P5.2

func TestJoin(t *testing.T) {
	for _, c := range []struct{ l, want []api.Span }{
		{nil, nil}, {[]api.Span{}, nil}, {empties, nil}, {sps(5, 4), nil}, {sps(0, -1), nil}, {sps(4, 4), sps(4, 4)},
		{sps(5, 7, 1, 2, 3, 3), sps(1, 3, 5, 7)}, // the chapter's example
		{sps(1, 2, 3, 4), sps(1, 4)}, {sps(3, 4, 1, 2), sps(1, 4)}, {sps(1, 2, 4, 5), sps(1, 2, 4, 5)}, {sps(4, 5, 1, 2), sps(1, 2, 4, 5)},
		{sps(1, 9, 3, 4), sps(1, 9)}, {sps(3, 4, 1, 9), sps(1, 9)}, {sps(1, 9, 3, 4, 10, 11), sps(1, 11)}, {sps(1, 9, 2, 3, 5, 6, 9, 12), sps(1, 12)}, {sps(1, 4, 1, 9, 1, 2), sps(1, 9)},
		{sps(2, 3, 2, 3, 2, 3), sps(2, 3)}, {sps(0, 0, -1, -1), sps(-1, 0)}, {sps(-1, -1, 1, 1), sps(-1, -1, 1, 1)}, {sps(3, 3, 9, 2, 5, 5, 4, 3), sps(3, 3, 5, 5)}, {sps(1, 1, 3, 3, 5, 5, 2, 2, 4, 4), sps(1, 5)},
		{sps(least, most, 3, 4), sps(least, most)}, {sps(3, 4, least, most), sps(least, most)}, {sps(most, most, least, least), sps(least, least, most, most)}, {sps(most, most, most-1, most-1), sps(most-1, most)}, {sps(least+1, least+1, least, least), sps(least, least+1)},
		{sps(0, most, least, -1), sps(least, most)}, {sps(1, most, least, -1), sps(least, -1, 1, most)}, {sps(0, most, most, most, 5, most), sps(0, most)}, {sps(least, least, least, 3, least, least), sps(least, 3)}, {sps(most, least, 2, 2), sps(2, 2)},
	} {
		if l := span.Join(c.l); !slices.Equal(l, c.want) {
			t.Error(c.l, l)
		}
	}
}

func TestGaps(t *testing.T) {
	example := sps(5, 7, 1, 2, 3, 3)
	for _, c := range []struct {
		l    []api.Span
		in   api.Span
		want []api.Span
	}{
		{example, sp(0, 9), sps(0, 0, 4, 4, 8, 9)}, // the chapter's example
		{nil, sp(0, 9), sps(0, 9)}, {[]api.Span{}, sp(3, 3), sps(3, 3)}, {nil, none, nil}, {nil, sp(5, 4), nil}, {nil, sp(most, least), nil}, {nil, sp(least, most), sps(least, most)}, {empties, sp(0, 9), sps(0, 9)}, {empties, none, nil},
		{example, none, nil}, {example, sp(9, 0), nil}, {example, sp(6, 5), nil}, {example, sp(4, 3), nil}, {sps(least, most), none, nil}, {sps(-5, 5), sp(3, -3), nil},
		{example, sp(1, 7), sps(4, 4)}, {example, sp(2, 6), sps(4, 4)}, {example, sp(5, 7), nil}, {example, sp(6, 6), nil}, {example, sp(4, 4), sps(4, 4)}, {example, sp(3, 5), sps(4, 4)}, {example, sp(8, 20), sps(8, 20)}, {example, sp(-9, 0), sps(-9, 0)}, {example, sp(-9, 1), sps(-9, 0)}, {example, sp(7, 20), sps(8, 20)},
		{sps(-20, 20), sp(0, 9), nil}, {sps(0, 9), sp(0, 9), nil}, {sps(-20, 3, 6, 20), sp(0, 9), sps(4, 5)}, {sps(-20, -10, 15, 20), sp(0, 9), sps(0, 9)}, {sps(-20, -1, 10, 20), sp(0, 9), sps(0, 9)}, {sps(1, 9), sp(0, 9), sps(0, 0)}, {sps(0, 8), sp(0, 9), sps(9, 9)},
		{sps(3, 4, 3, 4, 6, 6, 3, 3), sp(0, 9), sps(0, 2, 5, 5, 7, 9)}, {sps(2, 8, 4, 5), sp(0, 9), sps(0, 1, 9, 9)}, {sps(-9, -7), sp(-10, -6), sps(-10, -10, -6, -6)}, {sps(-9, -7), sp(-20, -15), sps(-20, -15)},
		{sps(0, most), sp(-5, most), sps(-5, -1)}, {sps(least, 0), sp(least, 5), sps(1, 5)}, {sps(0, 0), sp(least, most), sps(least, -1, 1, most)}, {sps(least, least, most, most), sp(least, most), sps(least+1, most-1)}, {sps(least, most), sp(least, most), nil}, {sps(least, most), sp(3, 5), nil},
		{sps(most, most), sp(most, most), nil}, {sps(least, least), sp(least, least), nil}, {sps(most, most), sp(most-1, most), sps(most-1, most-1)}, {sps(least, least), sp(least, least+1), sps(least+1, least+1)}, {sps(least, -2, 0, most), sp(least, most), sps(-1, -1)}, {sps(least, 2, 4, most), sp(-9, 9), sps(3, 3)},
	} {
		if l := span.Gaps(c.l, c.in); !slices.Equal(l, c.want) {
			t.Error(c.l, c.in, l)
		}
	}
}

// P5.2 and P5.3: each number that is looked at is in as many as the document says.

func TestJoinAnySpans(t *testing.T) {
	r := rand.New(rand.NewSource(1))
	for range 20000 {
		l := anySpans(r)
		joined := span.Join(l)
		if !apart(joined) {
			t.Fatal(l, joined)
		}
		for _, n := range looked() {
			if withinOne(joined, n) != min(1, withinOne(l, n)) {
				t.Fatal(l, joined, n)
			}
		}
		if again := span.Join(joined); !slices.Equal(again, joined) {
			t.Fatal(l, joined, again)
		}
	}
}

func TestGapsAnySpans(t *testing.T) {
	r := rand.New(rand.NewSource(2))
	for range 20000 {
		l := anySpans(r)
		for _, in := range append(anySpans(r), sp(least, most), sp(-9, 9), none) {
			gaps := span.Gaps(l, in)
			if !apart(gaps) {
				t.Fatal(l, in, gaps)
			}
			for _, n := range looked() {
				want := 0
				if within(in, n) && withinOne(l, n) == 0 {
					want = 1
				}
				if withinOne(gaps, n) != want {
					t.Fatal(l, in, gaps, n)
				}
				if within(in, n) && withinOne(gaps, n)+withinOne(span.Join(l), n) != 1 {
					t.Fatal(l, in, gaps, n)
				}
			}
			all := append(append([]api.Span(nil), l...), gaps...)
			if rest := span.Gaps(all, in); len(rest) != 0 {
				t.Fatal(l, in, gaps, rest)
			}
		}
	}
}

func TestManySpans(t *testing.T) {
	const n = 200000
	var odd, down, mixed []api.Span
	for i := range n {
		odd = append(odd, sp(2*i+1, 2*i+1))
		down = append(down, sp(2*(n-1-i)+1, 2*(n-1-i)+1))
		k := i * 7919 % n
		mixed = append(mixed, sp(2*k+1, 2*k+1))
	}
	for _, l := range [][]api.Span{odd, down, mixed, append(slices.Clone(down), odd...)} {
		if joined := span.Join(l); !slices.Equal(joined, odd) {
			t.Error(len(joined))
		}
		gaps := span.Gaps(l, sp(0, 2*n))
		if len(gaps) != n+1 || gaps[0] != sp(0, 0) || gaps[n] != sp(2*n, 2*n) {
			t.Error(len(gaps))
		}
	}
	if joined := span.Join(append(slices.Clone(odd), sp(0, 2*n))); !slices.Equal(joined, sps(0, 2*n)) {
		t.Error(len(joined))
	}
}

// R3: what is handed in stays as it was, and is not kept.

func TestNothingIsChangedOrKept(t *testing.T) {
	r := rand.New(rand.NewSource(3))
	for i := range 5000 {
		l := anySpans(r)
		if i%2 == 0 { // what is joined already might be handed back
			l = span.Join(l)
		}
		room := sps(70, 71, 80, 81, 90, 91)
		given := append(slices.Clone(l), room...)[:len(l)]
		in := sp(-9, 9)
		joined, gaps := span.Join(given), span.Gaps(given, in)
		wasJoined, wasGaps := slices.Clone(joined), slices.Clone(gaps)
		if !slices.Equal(given[:len(l)+len(room)], append(slices.Clone(l), room...)) {
			t.Fatal(l, given)
		}
		for _, a := range [][]api.Span{joined[:cap(joined)], gaps[:cap(gaps)]} {
			for j := range a {
				a[j] = sp(5000, 5001)
			}
		}
		if !slices.Equal(given[:len(l)+len(room)], append(slices.Clone(l), room...)) {
			t.Fatal("shared", l, given)
		}
		if !slices.Equal(span.Join(given), wasJoined) || !slices.Equal(span.Gaps(given, in), wasGaps) {
			t.Fatal("again", l)
		}
	}
}
