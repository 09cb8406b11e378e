package zone_test

import (
	"math"
	"math/big"
	"math/rand"
	"slices"
	"testing"

	"deckhand/api"
	"deckhand/deck"
	"deckhand/rail"
	"deckhand/zone"
)

const (
	most  = 1<<63 - 1
	least = -1 << 63
	tiny  = 0x1p-1074
	huge  = math.MaxFloat64
)

var (
	nan       = math.NaN()
	inf       = math.Inf(1)
	minusNull = math.Copysign(0, -1)
)

func up(f float64) float64   { return math.Nextafter(f, inf) }
func down(f float64) float64 { return math.Nextafter(f, -inf) }

func sp(lo, hi int) api.Span { return api.Span{Lo: lo, Hi: hi} }

// plate is a plate of wells of 100, rack a rack, so many rows and columns of them, that lie so.
func plate(rows, cols int, x, pitch, reach float64) api.Plate {
	return api.Plate{Rows: rows, Cols: cols, X: x, Pitch: pitch, Reach: reach, Cap: 100}
}

func rack(rows, cols int, x, pitch, reach float64) api.Rack {
	return api.Rack{Rows: rows, Cols: cols, X: x, Pitch: pitch, Reach: reach}
}

// rails is n lanes that are 9 wide.
func rails(n int) []float64 {
	l := make([]float64, n+1)
	for i := range l {
		l[i] = float64(9 * i)
	}
	return l
}

// example is the chapter's: of the ids 0 to 2 the lanes are 0 and 1, 1 and 2, 2; the lanes are 3 to 5.
func example() api.Deck {
	return api.Deck{Borders: rails(3), Plates: []api.Plate{plate(1, 3, 4.5, 9, 4.5)}, Arms: 1}
}

// three is a deck of three plates and two racks: 24 wells, 12 tips, 6 lanes.
func three() api.Deck {
	return api.Deck{
		Borders: rails(6),
		Plates:  []api.Plate{plate(2, 4, 4.5, 9, 4.5), plate(3, 4, 1, 16, 0), plate(1, 4, 50, -12, 2)},
		Racks:   []api.Rack{rack(2, 3, 27, 0, 100), rack(6, 1, 54, 1, 0)},
		Arms:    3,
	}
}

// full is a deck that has as many of everything as may be.
func full() api.Deck {
	d := api.Deck{Borders: rails(api.MaxLanes), Arms: api.MaxArms}
	for i, rows := range []int{8, 4, 32, 2} {
		cols := 96 / rows
		d.Plates = append(d.Plates, plate(rows, cols, float64(2+40*i), 96/float64(cols), float64(i)*4.5))
		d.Racks = append(d.Racks, rack(rows, cols, float64(100-30*i), 3, float64(i)))
	}
	return d
}

// rightDecks are decks that are right.
func rightDecks() []api.Deck {
	bare := api.Deck{Borders: rails(4), Arms: 1}
	plates := api.Deck{Borders: []float64{-1, minusNull, 1}, Plates: []api.Plate{plate(1, 1, minusNull, minusNull, minusNull), plate(2, 2, 0, -1, 0), plate(1, 2, -tiny, tiny, tiny), plate(1, 3, -1, 1, 0.5)}, Arms: 2}
	racksOnly := api.Deck{Borders: []float64{-inf, 0, inf}, Racks: []api.Rack{rack(1, 1, inf, 1, 5), rack(2, 1, -inf, -1, 5), rack(1, 2, 0, -1, inf), rack(1, 48, huge, huge, 1)}, Arms: 8}
	beside := api.Deck{Borders: rails(3), Plates: []api.Plate{plate(1, 2, -2, 31, 2)}, Racks: []api.Rack{rack(2, 2, -1, 37, 10)}, Arms: 1}
	rounded := api.Deck{Borders: []float64{-1, 0x1p-54, 1}, Plates: []api.Plate{plate(1, 4, -0.3, 0.1, 0), plate(1, 4, -0.3, 0.1, 0x1p-55)}, Racks: []api.Rack{rack(1, 4, -0.7, 0.7/3, 0)}, Arms: 1}
	return []api.Deck{example(), three(), full(), bare, plates, racksOnly, beside, rounded}
}

// wrong is a deck that is described but not right: the least id that is refused, and as what.
type wrong struct {
	d   api.Deck
	id  int
	err api.Errno
}

// wrongDecks are decks like three of which something is refused: the ids 0, 8, 20, 24 and 30 are the first ones of the plates and racks.
func wrongDecks() []wrong {
	var l []wrong
	add := func(id int, err api.Errno, do func(d *api.Deck)) {
		d := three()
		do(&d)
		l = append(l, wrong{d, id, err})
	}
	lie := func(id int, err api.Errno, x, pitch, reach float64) {
		add(id, err, func(d *api.Deck) {
			p := &d.Plates[0]
			p.X, p.Pitch, p.Reach = x, pitch, reach
		})
	}
	for _, c := range [][3]float64{{nan, 9, 4.5}, {4.5, nan, 4.5}, {4.5, 9, nan}, {nan, nan, nan}, {nan, 9, -1}, {4.5, nan, -1}, {100, 9, nan}, {4.5, inf, 4.5}, {4.5, -inf, 4.5}, {4.5, inf, -1}, {inf, 9, inf}, {-inf, 9, inf}} {
		lie(0, api.ErrNaN, c[0], c[1], c[2])
	}
	for _, c := range [][3]float64{{4.5, 9, -tiny}, {4.5, 9, -inf}, {inf, 9, -inf}, {100, 9, -1}} {
		lie(0, api.ErrBelow, c[0], c[1], c[2])
	}
	for _, c := range [][3]float64{{inf, 9, 4.5}, {-inf, 9, 4.5}, {-5, 9, 4.75}, {-tiny, 9, 0}, {up(54), -9, 0}, {huge, 9, 4.5}} {
		lie(0, api.ErrOut, c[0], c[1], c[2])
	}
	lie(1, api.ErrOut, 4.5, huge, 4.5)
	lie(1, api.ErrOut, 0, -tiny, 0)
	lie(2, api.ErrNaN, 4, huge, inf) // twice the greatest float is an infinity
	lie(2, api.ErrOut, 4, 26, 1)
	lie(3, api.ErrOut, 4.5, 26, 4.5)
	lie(3, api.ErrOut, 0, up(18), 0)
	add(2, api.ErrNaN, func(d *api.Deck) { // two infinities together
		d.Borders[0], d.Plates[0].X, d.Plates[0].Pitch = -inf, -inf, huge
	})
	add(8, api.ErrBelow, func(d *api.Deck) { d.Plates[1].Reach = -1 })
	add(11, api.ErrOut, func(d *api.Deck) { d.Plates[1].Pitch = 18 })
	add(20, api.ErrNaN, func(d *api.Deck) { d.Plates[2].Pitch = nan })
	add(23, api.ErrOut, func(d *api.Deck) { d.Plates[2].Pitch = -18 })
	add(24, api.ErrNaN, func(d *api.Deck) { d.Racks[0].X = nan })
	add(26, api.ErrOut, func(d *api.Deck) { d.Racks[0].Pitch = 64 })
	add(30, api.ErrOut, func(d *api.Deck) { d.Racks[1].X = up(54) })
	add(30, api.ErrBelow, func(d *api.Deck) { d.Racks[1].Reach = -1 })
	add(35, api.ErrOut, func(d *api.Deck) { d.Racks[1] = rack(1, 6, 4, up(10), 0) })
	// Of several the least id is told.
	add(23, api.ErrOut, func(d *api.Deck) { d.Plates[2].Pitch, d.Racks[0].Reach = -18, nan })
	add(8, api.ErrNaN, func(d *api.Deck) { d.Plates[1].X, d.Plates[2].Reach, d.Racks[1].X = nan, -1, 99 })
	add(20, api.ErrBelow, func(d *api.Deck) { d.Plates[2].Reach, d.Racks[0].X = -1, nan })
	add(3, api.ErrOut, func(d *api.Deck) { d.Plates[0].Pitch, d.Plates[1].X = 26, nan })
	return l
}

// undescribed are decks that are not described; each has something that Reach would refuse, too.
func undescribed() map[api.Errno][]api.Deck {
	l := map[api.Errno][]api.Deck{}
	add := func(err api.Errno, do func(d *api.Deck)) {
		d, off := three(), three()
		do(&d)
		off.Plates[0].X, off.Racks[1].Reach = nan, -1
		do(&off)
		l[err] = append(l[err], d, off)
	}
	l[api.ErrArg] = []api.Deck{{}}
	add(api.ErrArg, func(d *api.Deck) { d.Borders = d.Borders[:1] })
	add(api.ErrLong, func(d *api.Deck) { d.Borders = rails(25) })
	add(api.ErrNaN, func(d *api.Deck) { d.Borders[3] = nan })
	add(api.ErrRail, func(d *api.Deck) { d.Borders[6] = 45 })
	add(api.ErrArms, func(d *api.Deck) { d.Arms = 9 })
	add(api.ErrLong, func(d *api.Deck) { d.Racks = append(d.Racks, d.Racks[0], d.Racks[0], d.Racks[0]) })
	add(api.ErrPlate, func(d *api.Deck) { d.Plates[2].Cap = 0 })
	add(api.ErrPlate, func(d *api.Deck) { d.Plates[0].Cols = 49 })
	add(api.ErrRack, func(d *api.Deck) { d.Racks[1].Rows = 0 })
	add(api.ErrLong, func(d *api.Deck) { d.Racks[1].Rows, d.Racks[1].Cols = 32, 12 })
	return l
}

// lying is a part as the document has it: a lane by its number, a well and a tip by what it lies on and its column.
type lying struct {
	lane            int
	x, pitch, reach float64
	col             int
}

// listed are all parts of a described deck, in the order of their ids.
func listed(d api.Deck) []lying {
	var l []lying
	add := func(rows, cols int, x, pitch, reach float64) {
		for i := range rows * cols {
			l = append(l, lying{-1, x, pitch, reach, i % cols})
		}
	}
	for _, p := range d.Plates {
		add(p.Rows, p.Cols, p.X, p.Pitch, p.Reach)
	}
	for _, r := range d.Racks {
		add(r.Rows, r.Cols, r.X, r.Pitch, r.Reach)
	}
	for lane := range len(d.Borders) - 1 {
		l = append(l, lying{lane: lane})
	}
	return l
}

// wellsAndTips is how many parts of a described deck are no lanes.
func wellsAndTips(d api.Deck) int { return len(listed(d)) - len(d.Borders) + 1 }

// finite tells whether a float is neither a no-number nor an infinity.
func finite(f float64) bool { return !math.IsNaN(f) && !math.IsInf(f, 0) }

// nearest is the float nearest to an exact number that is not 0.
func nearest(n *big.Rat) float64 {
	f, _ := n.Float64()
	return f
}

func rat(f float64) *big.Rat { return new(big.Rat).SetFloat64(f) }

// middle is the middle of a well or a tip: where all is finite, and not 0, it is reckoned exactly and then rounded, twice.
func (p lying) middle() float64 {
	product := float64(p.col) * p.pitch
	if finite(p.pitch) && p.pitch != 0 && p.col != 0 {
		product = nearest(new(big.Rat).Mul(rat(float64(p.col)), rat(p.pitch)))
	}
	if finite(product) && finite(p.x) && product != -p.x && product != 0 && p.x != 0 {
		return nearest(new(big.Rat).Add(rat(p.x), rat(product)))
	}
	return float64(p.x) + float64(product)
}

// span is what a part covers.
func (p lying) span(borders []float64) (api.Span, api.Errno) {
	if p.lane >= 0 {
		return sp(p.lane, p.lane), api.OK
	}
	return rail.Reach(borders, p.middle(), p.reach)
}

// same tells whether two floats have the same bits, or are both no-numbers.
func same(a, b float64) bool {
	return math.Float64bits(a) == math.Float64bits(b) || math.IsNaN(a) && math.IsNaN(b)
}

// nobodys are ids that no deck of that many parts has.
func nobodys(n int) []int {
	return []int{-1, -2, -n, n, n + 1, 2 * n, 1 << 32, most, least, least + n}
}

// described are all decks here that are.
func described() []api.Deck {
	l := rightDecks()
	for _, w := range wrongDecks() {
		l = append(l, w.d)
	}
	return l
}

// P9.1

func TestAt(t *testing.T) {
	for i, c := range []struct {
		x, pitch float64
		col      int
		want     float64
	}{
		{4.5, 9, 0, 4.5}, {4.5, 9, 1, 13.5}, {4.5, 9, 2, 22.5}, {4.5, 9, 47, 427.5}, {4.5, -9, 1, -4.5}, {4.5, 0, 5, 4.5},
		// As floats three times 0.1 is more than 0.3; both together, rounded once, were 0x1p-55.
		{-0.3, 0.1, 3, 0x1p-54}, {-0.7, 0.1, 7, 0x1p-53}, {1, 0x1p-53, 1, 1}, {1, 0x1p-53, 3, 1 + 0x1p-51}, {1, 0x1p-54, 3, 1 + 0x1p-52}, {1 << 53, 1, 1, 1 << 53}, {1 << 53, 1, 3, 1<<53 + 4},
		{minusNull, minusNull, 0, minusNull}, {minusNull, minusNull, 3, minusNull}, {minusNull, 0, 3, 0}, {minusNull, -5, 0, minusNull}, {0, minusNull, 3, 0}, {minusNull, 5, 0, 0}, {-5, 5, 1, 0},
		{tiny, tiny, 2, 3 * tiny}, {-tiny, tiny, 1, 0}, {0, tiny, 47, 47 * tiny}, {-huge, huge, 1, 0}, {-huge, huge, 2, inf}, {0, -huge, 2, -inf}, {huge, huge, 1, inf},
		{inf, 5, 3, inf}, {-inf, 5, 0, -inf}, {0, inf, 1, inf}, {0, -inf, 1, -inf}, {inf, inf, 2, inf}, {0, inf, 0, nan}, {0, -inf, 0, nan}, {inf, -inf, 1, nan}, {-inf, huge, 2, nan}, {-inf, huge, 1, -inf}, {nan, 1, 1, nan}, {1, nan, 1, nan}, {1, nan, 0, nan}, {nan, nan, 0, nan},
	} {
		d := api.Deck{Borders: rails(1), Plates: []api.Plate{plate(2, 48, c.x, c.pitch, -1)}, Racks: []api.Rack{rack(2, 48, c.x, c.pitch, nan)}, Arms: 1}
		for id := c.col; id < 192; id += 48 {
			if f, err := zone.At(d, id); !same(f, c.want) || err != api.OK {
				t.Error(i, id, f, err)
			}
		}
	}
}

func TestAtAndSpanOfAll(t *testing.T) {
	for i, d := range described() {
		all := listed(d)
		for id, p := range all {
			want, wantErr := 0.0, api.ErrArg
			if p.lane < 0 {
				want, wantErr = p.middle(), api.OK
			}
			if f, err := zone.At(d, id); !same(f, want) || err != wantErr {
				t.Error(i, "at", id, f, err)
			}
			lanes, wantErr := p.span(d.Borders)
			if s, err := zone.Span(d, id); s != lanes || err != wantErr {
				t.Error(i, "span", id, s, err)
			}
		}
		for _, id := range nobodys(len(all)) {
			if f, err := zone.At(d, id); !same(f, 0) || err != api.ErrNone {
				t.Error(i, "at", id, f, err)
			}
			if s, err := zone.Span(d, id); s != (api.Span{}) || err != api.ErrNone {
				t.Error(i, "span", id, s, err)
			}
		}
	}
}

func TestSpan(t *testing.T) {
	for i, c := range []struct {
		x, pitch, reach float64
		id              int
		want            api.Span
	}{
		{4.5, 9, 4.5, 0, sp(0, 1)}, {4.5, 9, 4.5, 1, sp(1, 2)}, {4.5, 9, 4.25, 1, sp(1, 1)}, {4.5, 9, 0, 2, sp(2, 2)}, // the chapter's example
		{0, 9, 0, 0, sp(0, 0)}, {0, 9, 0, 1, sp(1, 1)}, {0, 9, 0, 3, sp(2, 2)}, {0, down(9), 0, 1, sp(0, 0)}, {27, -9, minusNull, 0, sp(2, 2)}, {27, -9, minusNull, 1, sp(2, 2)}, {27, -9, minusNull, 2, sp(1, 1)}, {minusNull, 0, 0, 3, sp(0, 0)}, {27, 0, tiny, 3, sp(2, 2)},
		{13.5, 0, 100, 0, sp(0, 2)}, {13.5, 0, inf, 3, sp(0, 2)}, {-1, 0, 1, 0, sp(0, 0)}, {28, 0, 1, 0, sp(2, 2)}, {0, 9, 9, 1, sp(0, 2)}, {0, tiny, tiny, 1, sp(0, 0)},
		{0, 9, 0, 4, sp(0, 0)}, {0, 9, 0, 5, sp(1, 1)}, {0, 9, 0, 8, sp(0, 0)}, {0, 9, 0, 15, sp(2, 2)}, {0, 9, 0, 16, sp(0, 0)}, {0, 9, 0, 17, sp(1, 1)}, {0, 9, 0, 18, sp(2, 2)},
	} {
		d := api.Deck{Borders: rails(3), Plates: []api.Plate{plate(2, 4, c.x, c.pitch, c.reach)}, Racks: []api.Rack{rack(2, 4, c.x, c.pitch, c.reach)}, Arms: 1}
		if s, err := zone.Span(d, c.id); s != c.want || err != api.OK {
			t.Error(i, s, err)
		}
	}
}

// TestSpanOfRoundedMiddles has middles that lie in other lanes, were they rounded once.
func TestSpanOfRoundedMiddles(t *testing.T) {
	d := api.Deck{Borders: []float64{-1, 0x1.8p-55, 1}, Plates: []api.Plate{plate(1, 4, -0.3, 0.1, 0)}, Arms: 1}
	if s, err := zone.Span(d, 3); s != sp(1, 1) || err != api.OK {
		t.Error(s, err)
	}
	d = api.Deck{Borders: []float64{-1, 1, 1 + 0x1p-52, 2}, Plates: []api.Plate{plate(1, 4, 1, 0x1p-53, 0)}, Arms: 1}
	for id, want := range []api.Span{sp(1, 1), sp(1, 1), sp(2, 2), sp(2, 2)} {
		if s, err := zone.Span(d, id); s != want || err != api.OK {
			t.Error(id, s, err)
		}
	}
}

// P9.2

func TestCheckAndTable(t *testing.T) {
	for i, d := range rightDecks() {
		if err := zone.Check(d); err != api.OK {
			t.Error(i, err)
		}
		var want []api.Span
		for _, p := range listed(d) {
			s, _ := p.span(d.Borders)
			want = append(want, s)
		}
		if table, err := zone.Table(d); !slices.Equal(table, want) || err != api.OK {
			t.Error(i, table, err)
		}
	}
	want := []api.Span{sp(0, 1), sp(1, 2), sp(2, 2), sp(0, 0), sp(1, 1), sp(2, 2)}
	if table, err := zone.Table(example()); !slices.Equal(table, want) || err != api.OK {
		t.Error(table, err)
	}
}

func TestCheckAndTableRefuse(t *testing.T) {
	for i, w := range wrongDecks() {
		if err := zone.Check(w.d); err != w.err {
			t.Error(i, err, w.err)
		}
		if table, err := zone.Table(w.d); len(table) != 0 || err != w.err {
			t.Error(i, table, err, w.err)
		}
		for id, p := range listed(w.d)[:w.id+1] {
			want := api.OK
			if id == w.id {
				want = w.err
			}
			if _, err := p.span(w.d.Borders); err != want {
				t.Error(i, "is no such deck:", id, err)
			}
		}
	}
}

func TestUndescribed(t *testing.T) {
	for want, all := range undescribed() {
		for i, d := range all {
			if err := deck.Check(d); err != want {
				t.Fatal(want, i, "is no such deck:", err)
			}
			if err := zone.Check(d); err != want {
				t.Error(want, i, err)
			}
			if table, err := zone.Table(d); len(table) != 0 || err != want {
				t.Error(want, i, table, err)
			}
			for _, id := range []int{-1, 0, 5, 12, 36, 41, 42, 2000, most, least} {
				if f, err := zone.At(d, id); !same(f, 0) || err != want {
					t.Error(want, i, id, f, err)
				}
				if s, err := zone.Span(d, id); s != (api.Span{}) || err != want {
					t.Error(want, i, id, s, err)
				}
			}
			refused(t, d, want, [][2]int{{0, 0}, {0, 41}, {36, 36}, {-1, 0}, {0, 2000}})
		}
	}
}

// refused holds what Needs, Clash and Path tell of a deck, or of ids, that they refuse.
func refused(t *testing.T, d api.Deck, want api.Errno, pairs [][2]int) {
	t.Helper()
	for _, p := range pairs {
		for _, ids := range [][]int{p[:], {p[0], p[1], p[0]}, {p[1], p[0]}} {
			if needs, err := zone.Needs(d, ids); len(needs) != 0 || err != want {
				t.Error("needs", ids, needs, err, want)
			}
		}
		if yes, err := zone.Clash(d, p[0], p[1]); yes || err != want {
			t.Error("clash", p, yes, err, want)
		}
		if path, err := zone.Path(d, p[0], p[1]); len(path) != 0 || err != want {
			t.Error("path", p, path, err, want)
		}
	}
}

// P9.3

// lanesOf are the lanes that some ids of a right deck cover, told one by one.
func lanesOf(d api.Deck, ids ...int) (covered [api.MaxLanes]bool) {
	all := listed(d)
	for _, id := range ids {
		s, _ := all[id].span(d.Borders)
		for lane := s.Lo; lane <= s.Hi; lane++ {
			covered[lane] = true
		}
	}
	return covered
}

// idsOf are the ids of lanes.
func idsOf(d api.Deck, lanes [api.MaxLanes]bool) []int {
	var l []int
	for lane, yes := range lanes {
		if yes {
			l = append(l, wellsAndTips(d)+lane)
		}
	}
	return l
}

func TestNeedsClashPathOfTheExample(t *testing.T) {
	d := example()
	for i, c := range []struct{ ids, want []int }{
		{nil, nil}, {[]int{}, nil}, {[]int{0}, []int{3, 4}}, {[]int{1}, []int{4, 5}}, {[]int{2}, []int{5}}, {[]int{3}, []int{3}}, {[]int{5}, []int{5}}, {[]int{0, 0, 0}, []int{3, 4}}, {[]int{1, 0}, []int{3, 4, 5}}, {[]int{2, 0}, []int{3, 4, 5}}, {[]int{2, 3}, []int{3, 5}}, {[]int{5, 3}, []int{3, 5}}, {[]int{5, 4, 3, 2, 1, 0}, []int{3, 4, 5}}, {[]int{4, 4}, []int{4}}, {[]int{2, 5}, []int{5}},
	} {
		if needs, err := zone.Needs(d, c.ids); !slices.Equal(needs, c.want) || err != api.OK {
			t.Error(i, needs, err)
		}
	}
	for i, c := range []struct {
		a, b  int
		clash bool
		path  []int
	}{
		{0, 1, true, []int{3, 4, 5}}, {0, 0, true, []int{3, 4}}, {0, 2, false, []int{3, 4, 5}}, {1, 2, true, []int{4, 5}}, {0, 3, true, []int{3, 4}}, {0, 5, false, []int{3, 4, 5}}, {2, 3, false, []int{3, 4, 5}}, {2, 5, true, []int{5}}, {3, 5, false, []int{3, 4, 5}}, {3, 4, false, []int{3, 4}}, {3, 3, true, []int{3}}, {2, 4, false, []int{4, 5}},
	} {
		for _, ids := range [][2]int{{c.a, c.b}, {c.b, c.a}} {
			if yes, err := zone.Clash(d, ids[0], ids[1]); yes != c.clash || err != api.OK {
				t.Error(i, ids, yes, err)
			}
			if path, err := zone.Path(d, ids[0], ids[1]); !slices.Equal(path, c.path) || err != api.OK {
				t.Error(i, ids, path, err)
			}
		}
	}
}

func TestNeedsOfAll(t *testing.T) {
	r := rand.New(rand.NewSource(1))
	for i, d := range rightDecks() {
		n := len(listed(d))
		for id := range n {
			if needs, err := zone.Needs(d, []int{id}); !slices.Equal(needs, idsOf(d, lanesOf(d, id))) || err != api.OK {
				t.Error(i, id, needs, err)
			}
		}
		for range 100 {
			ids := make([]int, r.Intn(40))
			for k := range ids {
				ids[k] = r.Intn(n)
			}
			if needs, err := zone.Needs(d, ids); !slices.Equal(needs, idsOf(d, lanesOf(d, ids...))) || err != api.OK {
				t.Fatal(i, ids, needs, err)
			}
		}
		if needs, err := zone.Needs(d, nil); len(needs) != 0 || err != api.OK {
			t.Error(i, needs, err)
		}
	}
}

// pairs are all pairs of a deck's ids, of many parts some of them only.
func pairs(d api.Deck) [][2]int {
	n, step := len(listed(d)), 1
	if n > 100 {
		step = 23
	}
	var l [][2]int
	for a := 0; a < n; a += step {
		for b := 0; b < n; b += step {
			l = append(l, [2]int{a, b})
		}
		l = append(l, [2]int{a, n - 1}, [2]int{n - 1, a})
	}
	return l
}

func TestClashAndPathOfAll(t *testing.T) {
	for i, d := range rightDecks() {
		for _, p := range pairs(d) {
			one, other := lanesOf(d, p[0]), lanesOf(d, p[1])
			clash := false
			for lane := range one {
				clash = clash || one[lane] && other[lane]
			}
			ends := idsOf(d, lanesOf(d, p[0], p[1]))
			var path []int
			for id := ends[0]; id <= ends[len(ends)-1]; id++ {
				path = append(path, id)
			}
			if got, err := zone.Clash(d, p[0], p[1]); got != clash || err != api.OK {
				t.Fatal(i, p, got, err)
			}
			if got, err := zone.Path(d, p[0], p[1]); !slices.Equal(got, path) || err != api.OK {
				t.Fatal(i, p, got, err)
			}
		}
	}
}

func TestNeedsClashPathRefuse(t *testing.T) {
	for _, w := range wrongDecks() {
		refused(t, w.d, w.err, [][2]int{{0, 0}, {5, 9}, {36, 41}, {-1, 0}, {0, 1000}})
		if needs, err := zone.Needs(w.d, nil); len(needs) != 0 || err != w.err {
			t.Error(needs, err)
		}
	}
	for want, all := range undescribed() {
		for _, d := range all {
			if needs, err := zone.Needs(d, nil); len(needs) != 0 || err != want {
				t.Error(needs, err)
			}
		}
	}
	for _, d := range rightDecks() {
		n := len(listed(d))
		for _, id := range nobodys(n) {
			refused(t, d, api.ErrNone, [][2]int{{id, id}, {id, 0}, {0, id}, {n - 1, id}, {-1, id}})
			for at := range 5 {
				ids := []int{0, n - 1, 0, n / 2, n - 1}
				ids[at] = id
				if needs, err := zone.Needs(d, ids); len(needs) != 0 || err != api.ErrNone {
					t.Error(ids, needs, err)
				}
			}
		}
	}
}

// P9.4

func TestWhatFollows(t *testing.T) {
	for i, d := range rightDecks() {
		for _, p := range pairs(d) {
			one, _ := zone.Needs(d, p[:1])
			other, _ := zone.Needs(d, p[1:])
			common := slices.ContainsFunc(one, func(id int) bool { return slices.Contains(other, id) })
			if clash, err := zone.Clash(d, p[0], p[1]); clash != common || err != api.OK {
				t.Fatal(i, "clash", p, clash, err)
			}
			path, err := zone.Path(d, p[0], p[1])
			if err != api.OK || len(path) == 0 || path[len(path)-1]-path[0] != len(path)-1 || !slices.IsSorted(path) {
				t.Fatal(i, "lacks", p, path, err)
			}
			for _, id := range append(one, other...) {
				if !slices.Contains(path, id) {
					t.Fatal(i, "needs", p, path, id)
				}
			}
		}
	}
}

// R3

func TestNothingIsChanged(t *testing.T) {
	d := three()
	given := []int{5, 9, 3, 41, 7, 7}
	for n := range given {
		zone.Needs(d, given[:n])
	}
	if !slices.Equal(given, []int{5, 9, 3, 41, 7, 7}) {
		t.Error(given)
	}
	// Behind the end of each list there is room.
	d.Borders, d.Plates, d.Racks = append(d.Borders, 7)[:7], append(d.Plates, plate(1, 1, 1, 2, 3))[:3], append(d.Racks, rack(1, 1, 4, 5, 6))[:2]
	was := three()
	zone.Check(d)
	zone.Table(d)
	zone.Path(d, 0, 41)
	zone.Clash(d, 0, 41)
	if !slices.Equal(d.Borders, was.Borders) || !slices.Equal(d.Racks, was.Racks) || !slices.EqualFunc(d.Plates, was.Plates, func(a, b api.Plate) bool { return rackOf(a) == rackOf(b) }) {
		t.Error(d)
	}
	if d.Borders[:8][7] != 7 || rackOf(d.Plates[:4][3]) != rack(1, 1, 1, 2, 3) || d.Racks[:3][2] != rack(1, 1, 4, 5, 6) {
		t.Error("behind the end")
	}
}

func rackOf(p api.Plate) api.Rack { return rack(p.Rows, p.Cols, p.X, p.Pitch, p.Reach) }

func TestAnswersAreNew(t *testing.T) {
	d := example()
	table, _ := zone.Table(d)
	needs, _ := zone.Needs(d, []int{0, 1})
	path, _ := zone.Path(d, 0, 2)
	for i := range 3 {
		table[i], needs[i], path[i] = sp(9, 9), 99, 99
	}
	again, _ := zone.Table(d)
	needsAgain, _ := zone.Needs(d, []int{0, 1})
	pathAgain, _ := zone.Path(d, 0, 2)
	if again[0] != sp(0, 1) || !slices.Equal(needsAgain, []int{3, 4, 5}) || !slices.Equal(pathAgain, []int{3, 4, 5}) {
		t.Error(again, needsAgain, pathAgain)
	}
}
