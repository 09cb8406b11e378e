package want_test

import (
	"fmt"
	"math"
	"math/big"
	"math/rand"
	"slices"
	"testing"

	"deckhand/api"
	"deckhand/want"
	"deckhand/zone"
)

const (
	most  = 1<<63 - 1
	least = -1 << 63
	vast  = 1 << 40 // the greatest volume
	batch = 16      // as many ids as a request may have
	tiny  = 0x1p-1074
)

var (
	nan       = math.NaN()
	inf       = math.Inf(1)
	minusNull = math.Copysign(0, -1)
)

// ids is a list of numbers, of a short form.
func ids(l ...int) []int { return l }

// from is n numbers from a first one on.
func from(first, n int) []int {
	l := make([]int, n)
	for i := range l {
		l[i] = first + i
	}
	return l
}

// bits is the bits of so many microlitres.
func bits(f float64) uint64 { return math.Float64bits(f) }

// The requests of each kind, in a short form.
func reserve(l ...int) api.Req                  { return api.Req{Kind: 1, Ids: l} }
func release(l ...int) api.Req                  { return api.Req{Kind: 2, Ids: l} }
func free() api.Req                             { return api.Req{Kind: 3} }
func move(a, b int, f float64) api.Req          { return api.Req{Kind: 4, A: a, B: b, Vol: bits(f)} }
func fill(a int, f float64) api.Req             { return api.Req{Kind: 5, A: a, Vol: bits(f)} }
func waste(a int, f float64) api.Req            { return api.Req{Kind: 6, A: a, Vol: bits(f)} }
func take(a int) api.Req                        { return api.Req{Kind: 7, A: a} }
func drop() api.Req                             { return api.Req{Kind: 8} }
func ask(a int) api.Req                         { return api.Req{Kind: 9, A: a} }
func since(a, ver int) api.Req                  { return api.Req{Kind: 10, A: a, Ver: ver} }
func no(err api.Errno, id int) api.Resp         { return api.Resp{Err: err, Id: id} }
func same(a, b api.Resp) bool                   { return fmt.Sprint(a) == fmt.Sprint(b) }
func with(r api.Req, do func(*api.Req)) api.Req { do(&r); return r }

// rails is n lanes that are 9 wide.
func rails(n int) []float64 {
	l := make([]float64, n+1)
	for i := range l {
		l[i] = float64(9 * i)
	}
	return l
}

func plate(rows, cols int, x, pitch, reach float64) api.Plate {
	return api.Plate{Rows: rows, Cols: cols, X: x, Pitch: pitch, Reach: reach, Cap: 100}
}

func rack(rows, cols int, x, pitch, reach float64) api.Rack {
	return api.Rack{Rows: rows, Cols: cols, X: x, Pitch: pitch, Reach: reach}
}

// lab is a deck of seven wells (0 to 6), four tips (7 to 10) and four lanes (11 to 14); covered says what each covers.
func lab() api.Deck {
	return api.Deck{
		Borders: rails(4),
		Plates:  []api.Plate{plate(2, 3, 4.5, 9, 4.5), plate(1, 1, 30, 0, 0)},
		Racks:   []api.Rack{rack(1, 2, 1, 16, 0), rack(2, 1, 18, 0, 3)},
		Arms:    3,
	}
}

// covered is the ids of the lanes that each well and tip of lab covers.
func covered() [][]int {
	return [][]int{{11, 12}, {12, 13}, {13, 14}, {11, 12}, {12, 13}, {13, 14}, {14}, {11}, {12}, {12, 13}, {12, 13}}
}

// wide is a deck of one lane with 48 wells (0 to 47), 6 tips (48 to 53); 54 is the lane.
func wide() api.Deck {
	return api.Deck{Borders: rails(1), Plates: []api.Plate{plate(4, 12, 1, 0.5, 0)}, Racks: []api.Rack{rack(2, 3, 1, 1, 0)}, Arms: 1}
}

// full is a deck that has as many of everything as may be.
func full() api.Deck {
	d := api.Deck{Borders: rails(24), Arms: 8}
	for i := range 4 {
		d.Plates = append(d.Plates, plate(8, 12, 4.5, 18, float64(9*i)))
		d.Racks = append(d.Racks, rack(8, 12, 207, -18, float64(50*i)))
	}
	return d
}

// rightDecks are decks that are right.
func rightDecks() []api.Deck {
	bare := api.Deck{Borders: rails(5), Arms: 8}
	wellsOnly := api.Deck{Borders: []float64{-inf, 0, inf}, Plates: []api.Plate{plate(1, 2, -1, 1, 0), plate(3, 1, 0, -5, inf)}, Arms: 2}
	tipsOnly := api.Deck{Borders: rails(3), Racks: []api.Rack{rack(2, 3, 0, 9, 4.5)}, Arms: 1}
	return []api.Deck{lab(), wide(), full(), bare, wellsOnly, tipsOnly}
}

// wrong is a deck that is refused, and as what.
type wrong struct {
	d   api.Deck
	err api.Errno
}

// wrongDecks are decks like lab of which something is wrong.
func wrongDecks() []wrong {
	l := []wrong{{api.Deck{}, api.ErrArg}}
	add := func(err api.Errno, do func(d *api.Deck)) {
		d := lab()
		do(&d)
		l = append(l, wrong{d, err})
	}
	add(api.ErrArg, func(d *api.Deck) { d.Borders = d.Borders[:1] })
	add(api.ErrLong, func(d *api.Deck) { d.Borders = rails(25) })
	add(api.ErrNaN, func(d *api.Deck) { d.Borders[2] = nan })
	add(api.ErrRail, func(d *api.Deck) { d.Borders[4] = 27 })
	add(api.ErrArms, func(d *api.Deck) { d.Arms = 0 })
	add(api.ErrArms, func(d *api.Deck) { d.Arms = 9 })
	add(api.ErrLong, func(d *api.Deck) { d.Racks = slices.Repeat(d.Racks, 3) })
	add(api.ErrPlate, func(d *api.Deck) { d.Plates[1].Cap = 0 })
	add(api.ErrPlate, func(d *api.Deck) { d.Plates[0].Start = ids(101) })
	add(api.ErrRack, func(d *api.Deck) { d.Racks[1].Rows = 0 })
	add(api.ErrLong, func(d *api.Deck) { d.Plates[0].Rows, d.Plates[0].Cols = 32, 13 })
	// What is described, but lies off the rail.
	add(api.ErrNaN, func(d *api.Deck) { d.Plates[0].X = nan })
	add(api.ErrBelow, func(d *api.Deck) { d.Plates[1].Reach = -1 })
	add(api.ErrOut, func(d *api.Deck) { d.Racks[1].X = 99 })
	add(api.ErrOut, func(d *api.Deck) { d.Plates[0].Pitch = 19 })
	return l
}

// counts are how many wells and tips a right deck has, and how many ids.
func counts(d api.Deck) (wells, tips, all int) {
	for _, p := range d.Plates {
		wells += p.Rows * p.Cols
	}
	for _, r := range d.Racks {
		tips += r.Rows * r.Cols
	}
	return wells, tips, wells + tips + len(d.Borders) - 1
}

// names tells which fields a kind names: i Ids, a A as a well, t A as a tip, b B, n Ver, v Vol.
func names(kind int) string {
	return []string{"", "i", "i", "", "abv", "av", "av", "t", "", "a", "an"}[kind]
}

// mustVolume is what Volume must answer, reckoned with as many digits as that needs.
func mustVolume(b uint64) (int, api.Errno) {
	f := math.Float64frombits(b)
	switch {
	case math.IsNaN(f):
		return 0, api.ErrNaN
	case math.IsInf(f, 0):
		return 0, api.ErrInf
	case f < 0:
		return 0, api.ErrBelow
	}
	x := new(big.Rat).SetFloat64(f)
	x.Mul(x, big.NewRat(1000, 1))
	n, rest := new(big.Int).QuoRem(x.Num(), x.Denom(), new(big.Int))
	rest.Mul(rest, big.NewInt(2))
	if c := rest.Cmp(x.Denom()); c > 0 || c == 0 && n.Bit(0) == 1 {
		n.Add(n, big.NewInt(1))
	}
	switch {
	case n.Cmp(big.NewInt(vast)) > 0:
		return 0, api.ErrOver
	case n.Sign() == 0:
		return 0, api.ErrArg
	}
	return int(n.Int64()), api.OK
}

// mustCheck is what Check must answer of a right deck.
func mustCheck(d api.Deck, r api.Req) api.Resp {
	if r.Kind < 1 || r.Kind > 10 {
		return no(api.ErrKind, 0)
	}
	wells, tips, all := counts(d)
	has := func(sign rune) bool { return slices.Contains([]rune(names(r.Kind)), sign) }
	for sign, set := range map[rune]bool{'i': len(r.Ids) > 0, 'a': r.A != 0 && !has('t'), 'b': r.B != 0, 'n': r.Ver != 0, 'v': r.Vol != 0} {
		if set && !has(sign) {
			return no(api.ErrForm, 0)
		}
	}
	if has('i') {
		return mustCheckIds(r.Ids, all)
	}
	switch {
	case has('a') && (r.A < 0 || r.A >= wells), has('t') && (r.A < wells || r.A >= wells+tips):
		return no(api.ErrNone, r.A)
	case has('b') && (r.B < 0 || r.B >= wells):
		return no(api.ErrNone, r.B)
	case has('b') && r.A == r.B:
		return no(api.ErrArg, 0)
	}
	if has('v') {
		_, err := mustVolume(r.Vol)
		return no(err, 0)
	}
	return api.Resp{}
}

// mustCheckIds is what Check must answer of a batch for a deck with so many ids.
func mustCheckIds(l []int, all int) api.Resp {
	switch {
	case len(l) == 0:
		return no(api.ErrArg, 0)
	case len(l) > batch:
		return no(api.ErrLong, 0)
	}
	for i, id := range l {
		if slices.Contains(l[:i], id) {
			return no(api.ErrTwice, id)
		}
	}
	for _, id := range l {
		if id < 0 || id >= all {
			return no(api.ErrNone, id)
		}
	}
	return api.Resp{}
}

// sorted is what stands in lists, each once, rising.
func sorted(lists ...[]int) []int {
	all := slices.Concat(lists...)
	slices.Sort(all)
	return slices.Compact(all)
}

// lanes is the ids of a right deck's lanes that parts cover, and all between them.
func lanes(d api.Deck, parts ...int) []int {
	_, _, all := counts(d)
	lo, hi := most, -1
	for _, id := range parts {
		s, _ := zone.Span(d, id)
		lo, hi = min(lo, s.Lo), max(hi, s.Hi)
	}
	return from(all-len(d.Borders)+1+lo, hi-lo+1)
}

// mustMust is what Must must answer of a right deck.
func mustMust(d api.Deck, r api.Req) []int {
	if mustCheck(d, r).Err != api.OK {
		return nil
	}
	switch r.Kind {
	case api.ReqRelease:
		return sorted(r.Ids)
	case api.ReqMove:
		return sorted(ids(r.A, r.B), lanes(d, r.A, r.B))
	case api.ReqFill, api.ReqWaste, api.ReqTake:
		return sorted(ids(r.A), lanes(d, r.A))
	}
	return nil
}

// mustLocks is what Locks must answer of a right deck.
func mustLocks(d api.Deck, r api.Req, own []int, hand int) []int {
	switch {
	case mustCheck(d, r).Err != api.OK, r.Kind == api.ReqDrop && hand < 0:
		return nil
	case r.Kind == api.ReqReserve:
		return sorted(r.Ids)
	case r.Kind == api.ReqFree:
		return sorted(own)
	case r.Kind == api.ReqDrop:
		return ids(hand)
	case r.Kind == api.ReqAsk, r.Kind == api.ReqSince:
		return ids(r.A)
	}
	return mustMust(d, r)
}

// owns are what an arm may own, or what no arm does: lists that are no sets, numbers that are no ids.
func owns() [][]int {
	return [][]int{nil, {}, {0}, {3, 7, 12}, {12, 7, 3}, {5, 5, 5}, {9, 1, 9, 0, 1}, {-1}, {4, -1, least, most, 99}, from(0, 40), from(-3, 50)}
}

// goods are requests that lab does not refuse, one of each kind at least.
func goods() []api.Req {
	return []api.Req{reserve(3), reserve(14, 0, 7), release(2), release(9, 1, 12), free(), move(0, 2, 1), move(6, 3, 0.001), fill(1, 2.5), fill(6, 1), waste(0, 1), waste(5, 3), take(7), take(10), drop(), ask(0), ask(6), since(0, 0), since(4, 7)}
}

// P15.1

// checked is a request, and what Check answers of it.
type checked struct {
	r    api.Req
	want api.Resp
}

func check(t *testing.T, d api.Deck, l []checked) {
	t.Helper()
	for i, c := range l {
		if got := want.Check(d, c.r); !same(got, c.want) {
			t.Error(i, c.r, got, c.want)
		}
	}
}

func TestCheckOfGoods(t *testing.T) {
	for i, r := range goods() {
		if got := want.Check(lab(), r); !same(got, api.Resp{}) {
			t.Error(i, r, got)
		}
	}
}

func TestCheckOfDecks(t *testing.T) {
	bad := []api.Req{{}, {Kind: 99}, {Kind: 3, A: 1}, reserve(), release(3, 3), reserve(99), ask(99), move(1, 1, 1), fill(0, nan)}
	for i, w := range wrongDecks() {
		for k, r := range append(bad, goods()...) {
			if got := want.Check(w.d, r); !same(got, no(w.err, 0)) {
				t.Error(i, k, got)
			}
		}
	}
}

func TestCheckOfKinds(t *testing.T) {
	for _, kind := range []int{least, -10, -1, 0, 11, 12, 20, 1 << 32, 1<<32 + 1, most} {
		for i, r := range append(goods(), reserve(), reserve(1, 1), ask(99), fill(0, nan), api.Req{Ids: ids(1), A: 1, B: 1, Ver: 1, Vol: 1}) {
			r.Kind = kind
			if got := want.Check(lab(), r); !same(got, no(api.ErrKind, 0)) {
				t.Error(kind, i, got)
			}
		}
	}
	for kind := 1; kind <= 10; kind++ {
		if got := want.Check(lab(), api.Req{Kind: kind}); got.Err == api.ErrKind || got.Err == api.ErrForm {
			t.Error(kind, got)
		}
	}
}

// TestCheckOfFields sets each field that a kind does not name, by itself, and with another fault behind it.
func TestCheckOfFields(t *testing.T) {
	set := map[rune][]func(r *api.Req){
		'i': {func(r *api.Req) { r.Ids = ids(0) }, func(r *api.Req) { r.Ids = ids(3, 7) }, func(r *api.Req) { r.Ids = from(0, 17) }},
		'a': {func(r *api.Req) { r.A = 1 }, func(r *api.Req) { r.A = -1 }, func(r *api.Req) { r.A = 99 }},
		'b': {func(r *api.Req) { r.B = 1 }, func(r *api.Req) { r.B = -1 }, func(r *api.Req) { r.B = 99 }},
		'n': {func(r *api.Req) { r.Ver = 1 }, func(r *api.Req) { r.Ver = -1 }, func(r *api.Req) { r.Ver = least }},
		'v': {func(r *api.Req) { r.Vol = 1 }, func(r *api.Req) { r.Vol = bits(1) }, func(r *api.Req) { r.Vol = bits(minusNull) }, func(r *api.Req) { r.Vol = bits(nan) }},
	}
	// Of each kind requests that are not refused, and some that are, by what comes behind.
	tried := append(goods(), reserve(), release(), reserve(1, 1), release(-1), reserve(from(0, 17)...), move(1, 1, 1), move(-1, 0, 1), move(0, 99, 1), move(0, 1, nan), fill(7, 1), fill(0, 0), waste(99, 1), waste(0, -1), take(0), take(-1), ask(7), since(11, 0))
	for i, r := range tried {
		for sign, dos := range set {
			if slices.Contains([]rune(names(r.Kind)), sign) || sign == 'a' && r.Kind == api.ReqTake {
				continue
			}
			for k, do := range dos {
				if got := want.Check(lab(), with(r, do)); !same(got, no(api.ErrForm, 0)) {
					t.Error(i, r, string(sign), k, got)
				}
			}
		}
	}
	// An empty list of Ids is none.
	for i, r := range goods() {
		if len(r.Ids) == 0 {
			r.Ids = ids()
			if got := want.Check(lab(), r); !same(got, api.Resp{}) {
				t.Error(i, got)
			}
		}
	}
}

func TestCheckOfBatches(t *testing.T) {
	for _, kind := range []int{api.ReqReserve, api.ReqRelease} {
		of := func(l ...int) api.Req { return api.Req{Kind: kind, Ids: l} }
		check(t, wide(), []checked{ // its ids are 0 to 54
			{of(), no(api.ErrArg, 0)}, {api.Req{Kind: kind, Ids: ids()}, no(api.ErrArg, 0)},
			{of(0), api.Resp{}}, {of(47), api.Resp{}}, {of(48), api.Resp{}}, {of(53), api.Resp{}}, {of(54), api.Resp{}}, {of(54, 0, 48), api.Resp{}}, {of(from(0, 16)...), api.Resp{}}, {of(from(39, 16)...), api.Resp{}},
			{of(from(0, 17)...), no(api.ErrLong, 0)}, {of(from(38, 17)...), no(api.ErrLong, 0)}, {of(from(0, 50)...), no(api.ErrLong, 0)},
			{of(3, 3), no(api.ErrTwice, 3)}, {of(0, 0), no(api.ErrTwice, 0)}, {of(5, 1, 2, 1, 5), no(api.ErrTwice, 1)}, {of(1, 5, 5, 1), no(api.ErrTwice, 5)}, {of(9, 8, 7, 9), no(api.ErrTwice, 9)}, {of(append(from(0, 15), 0)...), no(api.ErrTwice, 0)}, {of(append(from(0, 15), 14)...), no(api.ErrTwice, 14)},
			{of(-1), no(api.ErrNone, -1)}, {of(55), no(api.ErrNone, 55)}, {of(54, 55), no(api.ErrNone, 55)}, {of(least), no(api.ErrNone, least)}, {of(most), no(api.ErrNone, most)}, {of(1<<32, 0), no(api.ErrNone, 1<<32)}, {of(0, 99, -1), no(api.ErrNone, 99)}, {of(0, -1, 99), no(api.ErrNone, -1)}, {of(from(40, 16)...), no(api.ErrNone, 55)}, {of(from(-1, 16)...), no(api.ErrNone, -1)},
			// Several at once: too many is ahead of twice, and that ahead of what is none, wherever they stand.
			{of(append(from(0, 16), 0)...), no(api.ErrLong, 0)}, {of(slices.Repeat(ids(3), 17)...), no(api.ErrLong, 0)}, {of(from(-1, 17)...), no(api.ErrLong, 0)}, {of(slices.Repeat(ids(-1), 17)...), no(api.ErrLong, 0)}, {of(slices.Repeat(ids(3), 16)...), no(api.ErrTwice, 3)},
			{of(-1, 3, 3), no(api.ErrTwice, 3)}, {of(3, 3, -1), no(api.ErrTwice, 3)}, {of(99, 3, -1, 3), no(api.ErrTwice, 3)}, {of(-1, -1), no(api.ErrTwice, -1)}, {of(3, 99, 99, 3), no(api.ErrTwice, 99)},
		})
		check(t, lab(), []checked{{of(14), api.Resp{}}, {of(15), no(api.ErrNone, 15)}, {of(from(0, 15)...), api.Resp{}}, {of(from(0, 16)...), no(api.ErrNone, 15)}})
		check(t, full(), []checked{{of(791), api.Resp{}}, {of(792), no(api.ErrNone, 792)}, {of(383, 384, 767, 768), api.Resp{}}, {of(from(776, 16)...), api.Resp{}}, {of(from(777, 16)...), no(api.ErrNone, 792)}})
	}
}

func TestCheckOfWellsAndTips(t *testing.T) {
	// lab's wells are 0 to 6, its tips 7 to 10, its lanes 11 to 14.
	for _, id := range []int{least, -7, -1, 0, 1, 5, 6, 7, 8, 9, 10, 11, 14, 15, 99, 1 << 32, most} {
		well, tip, none := no(api.ErrNone, id), no(api.ErrNone, id), no(api.ErrNone, id)
		if id >= 0 && id <= 6 {
			well = api.Resp{}
		}
		if id >= 7 && id <= 10 {
			tip = api.Resp{}
		}
		twin := well // a move from a well to itself
		if id == 3 {
			twin = no(api.ErrArg, 0)
		}
		check(t, lab(), []checked{{fill(id, 1), well}, {waste(id, 1), well}, {take(id), tip}, {ask(id), well}, {since(id, 0), well}, {since(id, -1), well}, {since(id, most), well}, {move(id, 3, 1), twin}, {move(3, id, 1), twin}})
		if id < 0 || id > 6 {
			// A is told ahead of B, and both ahead of the volume; what is none is none, though A is B.
			check(t, lab(), []checked{{move(id, -2, 1), none}, {move(-2, id, 1), no(api.ErrNone, -2)}, {move(id, id, 1), none}, {move(id, id, nan), none}, {move(id, 3, nan), none}, {move(3, id, -1), none}, {fill(id, nan), none}, {waste(id, 0), none}})
		}
	}
	bare, tipsOnly := rightDecks()[3], rightDecks()[5]
	check(t, bare, []checked{{ask(0), no(api.ErrNone, 0)}, {take(0), no(api.ErrNone, 0)}, {fill(0, 1), no(api.ErrNone, 0)}, {move(0, 0, 1), no(api.ErrNone, 0)}, {reserve(4, 0), api.Resp{}}, {reserve(5), no(api.ErrNone, 5)}})
	check(t, tipsOnly, []checked{{ask(0), no(api.ErrNone, 0)}, {take(0), api.Resp{}}, {take(5), api.Resp{}}, {take(6), no(api.ErrNone, 6)}})
}

func TestCheckOfMoves(t *testing.T) {
	check(t, lab(), []checked{
		{move(0, 1, 1), api.Resp{}}, {move(1, 0, 1), api.Resp{}}, {move(6, 0, 1), api.Resp{}}, {move(0, 6, 1), api.Resp{}},
		{move(0, 0, 1), no(api.ErrArg, 0)}, {move(6, 6, 1), no(api.ErrArg, 0)},
		// A well is moved into itself: that is ahead of the volume.
		{move(2, 2, nan), no(api.ErrArg, 0)}, {move(2, 2, inf), no(api.ErrArg, 0)}, {move(2, 2, -1), no(api.ErrArg, 0)}, {move(2, 2, 1e300), no(api.ErrArg, 0)}, {move(2, 2, 0), no(api.ErrArg, 0)},
		{move(0, 7, nan), no(api.ErrNone, 7)}, {move(7, 0, nan), no(api.ErrNone, 7)}, {move(0, -1, inf), no(api.ErrNone, -1)}, {move(8, 7, -1), no(api.ErrNone, 8)}, {move(7, 7, 0), no(api.ErrNone, 7)},
	})
}

// TestCheckOfVolumes has each volume that is refused at each kind that names one.
func TestCheckOfVolumes(t *testing.T) {
	for _, b := range volumes() {
		_, err := mustVolume(b)
		for _, r := range []api.Req{{Kind: 4, A: 0, B: 1, Vol: b}, {Kind: 5, A: 0, Vol: b}, {Kind: 6, A: 6, Vol: b}} {
			if got := want.Check(lab(), r); !same(got, no(err, 0)) {
				t.Error(r, got)
			}
		}
	}
}

// all goes through requests with all that may be wrong beside each other.
func all(yield func(r api.Req) bool) {
	lists := [][]int{nil, {0}, {14, 2}, {3, 3}, {-1, 15}, {15, 4, 4}, from(0, 17)}
	for kind := -1; kind <= 12; kind++ {
		for _, a := range []int{-1, 0, 1, 6, 7, 10, 11, 15} {
			for _, b := range []int{-1, 0, 1, 6, 7} {
				for _, ver := range []int{-1, 0, 5} {
					for _, vol := range []uint64{0, bits(1), bits(nan), bits(-inf), bits(minusNull), bits(-1), bits(1e300), 1} {
						for _, l := range lists {
							if !yield(api.Req{Kind: kind, Ids: l, A: a, B: b, Ver: ver, Vol: vol}) {
								return
							}
						}
					}
				}
			}
		}
	}
}

func TestCheckOfAll(t *testing.T) {
	d := lab()
	for r := range all {
		if got, right := want.Check(d, r), mustCheck(d, r); !same(got, right) {
			t.Fatal(r, got, right)
		}
	}
}

// P15.2

// volumes are bits of floats: of each class, and beside each edge.
func volumes() []uint64 {
	l := []uint64{1, 2, 1 << 63, 1<<63 | 1, 0x7ff0000000000001, 0x7ff8000000000000, 0xfff8000000000001, math.MaxUint64, 0x7ff0000000000000, 0xfff0000000000000, 0x7fefffffffffffff, 0xffefffffffffffff, 0x000fffffffffffff, 0x0010000000000000}
	for _, f := range []float64{0, 0.0005, 0.001, 0.0015, 0.0025, 0.0625, 0.1875, 0.3125, 0.5, 1, 2.5, 1000, 1e9, vast / 1000, float64(vast) / 1000, (vast + 0.5) / 1000, (vast + 1.) / 1000, (vast - 1.) / 1000, 1099511627.7765, 1e10, 1e18, 1e300, tiny} {
		for _, g := range []float64{f, math.Nextafter(f, inf), math.Nextafter(f, -inf), -f} {
			l = append(l, bits(g))
		}
	}
	return l
}

func TestVolume(t *testing.T) {
	mid := 0.0005 // as a float it lies above the half
	for i, c := range []struct {
		f   float64
		n   int
		err api.Errno
	}{
		{nan, 0, api.ErrNaN}, {-nan, 0, api.ErrNaN}, {inf, 0, api.ErrInf}, {-inf, 0, api.ErrInf},
		{0, 0, api.ErrArg}, {minusNull, 0, api.ErrArg}, {tiny, 0, api.ErrArg}, {-tiny, 0, api.ErrBelow}, {-1, 0, api.ErrBelow}, {-0.0001, 0, api.ErrBelow}, {-1e300, 0, api.ErrBelow},
		{mid, 1, api.OK}, {math.Nextafter(mid, 0), 0, api.ErrArg}, {0.0004, 0, api.ErrArg}, {0.001, 1, api.OK},
		// Exactly halves: 62.5, 187.5, 312.5.
		{0.0625, 62, api.OK}, {0.1875, 188, api.OK}, {0.3125, 312, api.OK}, {math.Nextafter(0.0625, 1), 63, api.OK}, {math.Nextafter(0.1875, 0), 187, api.OK},
		{1, 1000, api.OK}, {2.5, 2500, api.OK}, {1500, 1500000, api.OK}, {1099511627.775, vast - 1, api.OK}, {1099511627.776, vast, api.OK}, {math.Nextafter(1099511627.776, inf), vast, api.OK}, {1099511627.7764, vast, api.OK}, {1099511627.7766, 0, api.ErrOver}, {1099511627.777, 0, api.ErrOver}, {1e300, 0, api.ErrOver}, {math.MaxFloat64, 0, api.ErrOver},
	} {
		if n, err := want.Volume(api.Req{Kind: api.ReqFill, Vol: bits(c.f)}); n != c.n || err != c.err {
			t.Error(i, c.f, n, err)
		}
	}
}

// TestVolumeOfAll asks for many volumes, whatever else stands in the request.
func TestVolumeOfAll(t *testing.T) {
	l := volumes()
	r := rand.New(rand.NewSource(1))
	for range 20000 {
		l = append(l, r.Uint64(), bits(r.Float64()*2e9), bits(math.Ldexp(r.Float64(), r.Intn(60)-20)))
	}
	for i, b := range l {
		n, err := mustVolume(b)
		for _, q := range []api.Req{{}, {Kind: 1 + i%10}, {Kind: -1, Ids: ids(1, 1), A: -5, B: 99, Ver: -1}} {
			q.Vol = b
			if m, e := want.Volume(q); m != n || e != err {
				t.Fatal(q, m, e, n, err)
			}
		}
	}
	// The greatest volume and the next float above it that is none.
	last := 1099511627.776
	for {
		next := math.Nextafter(last, inf)
		if n, _ := mustVolume(bits(next)); n != vast {
			break
		}
		last = next
	}
	if n, err := want.Volume(api.Req{Vol: bits(last)}); n != vast || err != api.OK {
		t.Error(n, err)
	}
	if n, err := want.Volume(api.Req{Vol: bits(math.Nextafter(last, inf))}); n != 0 || err != api.ErrOver {
		t.Error(n, err)
	}
}

// P15.3

func TestMust(t *testing.T) {
	for i, c := range []struct {
		r    api.Req
		want []int
	}{
		{reserve(3, 1), nil}, {free(), nil}, {drop(), nil}, {ask(3), nil}, {since(3, 0), nil},
		{release(3), ids(3)}, {release(9, 1, 14), ids(1, 9, 14)}, {release(14, 13, 12, 11, 10), from(10, 5)},
		{fill(0, 1), ids(0, 11, 12)}, {fill(1, 1), ids(1, 12, 13)}, {waste(5, 1), ids(5, 13, 14)}, {waste(6, 1), ids(6, 14)}, {fill(3, 1), ids(3, 11, 12)},
		{take(7), ids(7, 11)}, {take(8), ids(8, 12)}, {take(9), ids(9, 12, 13)}, {take(10), ids(10, 12, 13)},
		{move(0, 3, 1), ids(0, 3, 11, 12)}, {move(3, 0, 1), ids(0, 3, 11, 12)}, {move(0, 1, 1), ids(0, 1, 11, 12, 13)}, {move(2, 0, 1), ids(0, 2, 11, 12, 13, 14)}, {move(0, 6, 1), ids(0, 6, 11, 12, 13, 14)}, {move(6, 5, 1), ids(5, 6, 13, 14)}, {move(6, 0, 1), ids(0, 6, 11, 12, 13, 14)},
		// What is refused.
		{api.Req{}, nil}, {api.Req{Kind: 11}, nil}, {release(), nil}, {release(3, 3), nil}, {release(15), nil}, {release(from(0, 17)...), nil}, {fill(7, 1), nil}, {fill(0, nan), nil}, {fill(0, 0), nil}, {waste(0, -1), nil}, {take(0), nil}, {take(11), nil}, {move(0, 0, 1), nil}, {move(0, 7, 1), nil}, {move(0, 1, inf), nil}, {with(fill(0, 1), func(r *api.Req) { r.B = 1 }), nil}, {with(take(7), func(r *api.Req) { r.Ver = 1 }), nil}, {with(release(3), func(r *api.Req) { r.A = 1 }), nil},
	} {
		if got := want.Must(lab(), c.r); !slices.Equal(got, c.want) {
			t.Error(i, c.r, got)
		}
	}
	for i, p := range covered() {
		r := fill(i, 1)
		if i >= 7 {
			r = take(i)
		}
		if got := want.Must(lab(), r); !slices.Equal(got, append(ids(i), p...)) {
			t.Error(r, got)
		}
	}
}

// TestExample is the chapter's.
func TestExample(t *testing.T) {
	if got := want.Must(lab(), fill(0, 1.5)); !slices.Equal(got, ids(0, 11, 12)) {
		t.Error(got)
	}
	if got := want.Check(lab(), fill(0, nan)); !same(got, no(api.ErrNaN, 0)) {
		t.Error(got)
	}
}

// P15.4

func TestLocks(t *testing.T) {
	for i, c := range []struct {
		r    api.Req
		own  []int
		hand int
		want []int
	}{
		{reserve(3), nil, -1, ids(3)}, {reserve(14, 3, 0), ids(5), 7, ids(0, 3, 14)}, {release(9, 1), ids(5), 7, ids(1, 9)}, {release(2), nil, -1, ids(2)},
		{free(), nil, 7, nil}, {free(), ids(), -1, nil}, {free(), ids(4), -1, ids(4)}, {free(), ids(1, 2, 9), 7, ids(1, 2, 9)}, {free(), ids(9, 2, 1, 2), 7, ids(1, 2, 9)}, {free(), ids(-1, 99, least, most, -1), 7, ids(least, -1, 99, most)}, {free(), from(0, 40), -1, from(0, 40)},
		{drop(), ids(1, 2), -1, nil}, {drop(), ids(1, 2), -2, nil}, {drop(), nil, least, nil}, {drop(), ids(1, 2), 0, ids(0)}, {drop(), nil, 7, ids(7)}, {drop(), nil, 10, ids(10)}, {drop(), ids(7), 99, ids(99)}, {drop(), nil, most, ids(most)},
		{ask(0), ids(1), 7, ids(0)}, {ask(6), nil, -1, ids(6)}, {since(0, 0), ids(1), 7, ids(0)}, {since(5, -9), nil, -1, ids(5)},
		{fill(0, 1), ids(1), 7, ids(0, 11, 12)}, {waste(6, 1), nil, -1, ids(6, 14)}, {take(9), ids(1), 7, ids(9, 12, 13)}, {move(2, 0, 1), ids(1), 7, ids(0, 2, 11, 12, 13, 14)},
		// What is refused.
		{api.Req{}, ids(1), 7, nil}, {api.Req{Kind: 11}, ids(1), 7, nil}, {api.Req{Kind: -1}, ids(1), 7, nil}, {reserve(), ids(1), 7, nil}, {reserve(3, 3), ids(1), 7, nil}, {reserve(15), ids(1), 7, nil}, {with(free(), func(r *api.Req) { r.A = 1 }), ids(1), 7, nil}, {with(free(), func(r *api.Req) { r.Ids = ids(1) }), ids(1), 7, nil}, {with(drop(), func(r *api.Req) { r.Vol = 1 }), ids(1), 7, nil}, {ask(7), ids(1), 7, nil}, {ask(-1), ids(1), 7, nil}, {since(11, 0), ids(1), 7, nil}, {fill(0, 0), ids(1), 7, nil}, {waste(0, -1), ids(1), 7, nil}, {take(6), ids(1), 7, nil}, {move(1, 1, 1), ids(1), 7, nil}, {release(-1), ids(1), 7, nil},
	} {
		if got := want.Locks(lab(), c.r, c.own, c.hand); !slices.Equal(got, c.want) {
			t.Error(i, c.r, got)
		}
	}
	if got := want.Locks(wide(), reserve(from(30, 16)...), nil, -1); !slices.Equal(got, from(30, 16)) {
		t.Error(got)
	}
}

func TestNothingOfWrongDecks(t *testing.T) {
	for i, w := range wrongDecks() {
		for _, r := range goods() {
			if got := want.Must(w.d, r); len(got) > 0 {
				t.Error("must", i, r, got)
			}
			if got := want.Locks(w.d, r, ids(1, 2), 7); len(got) > 0 {
				t.Error("locks", i, r, got)
			}
		}
	}
}

func TestMustAndLocksOfAll(t *testing.T) {
	d, l := lab(), owns()
	at := 0
	for r := range all {
		at++
		own, hand := l[at%len(l)], ids(-1, 7, 0, most)[at%4]
		if got, right := want.Must(d, r), mustMust(d, r); !slices.Equal(got, right) {
			t.Fatal("must", r, got, right)
		}
		if got, right := want.Locks(d, r, own, hand), mustLocks(d, r, own, hand); !slices.Equal(got, right) {
			t.Fatal("locks", r, own, hand, got, right)
		}
	}
	for _, r := range goods() {
		for _, own := range l {
			for _, hand := range []int{least, -2, -1, 0, 1, 7, 99, most} {
				if got, right := want.Locks(d, r, own, hand), mustLocks(d, r, own, hand); !slices.Equal(got, right) {
					t.Error(r, own, hand, got, right)
				}
			}
		}
	}
}

// anyReq is a request that is mostly right for a deck.
func anyReq(r *rand.Rand, d api.Deck) api.Req {
	wells, tips, all := counts(d)
	id := func(n int) int {
		if r.Intn(30) == 0 {
			return r.Intn(all+4) - 2
		}
		return r.Intn(max(n, 1))
	}
	list := r.Perm(all)
	list = list[:min(all, 1+r.Intn(batch))]
	vol := float64(1 + r.Intn(9))
	l := []api.Req{reserve(list...), release(list...), free(), move(id(wells), id(wells), vol), fill(id(wells), vol), waste(id(wells), vol), take(wells + id(tips)), drop(), ask(id(wells)), since(id(wells), r.Intn(9))}
	return l[r.Intn(len(l))]
}

func TestMustAndLocksOfDecks(t *testing.T) {
	r := rand.New(rand.NewSource(2))
	for i, d := range rightDecks() {
		for range 1500 {
			q := anyReq(r, d)
			own, hand := owns()[r.Intn(len(owns()))], r.Intn(20)-2
			if got, right := want.Check(d, q), mustCheck(d, q); !same(got, right) {
				t.Fatal("check", i, q, got, right)
			}
			if got, right := want.Must(d, q), mustMust(d, q); !slices.Equal(got, right) {
				t.Fatal("must", i, q, got, right)
			}
			if got, right := want.Locks(d, q, own, hand), mustLocks(d, q, own, hand); !slices.Equal(got, right) {
				t.Fatal("locks", i, q, got, right)
			}
		}
	}
}

// R3

// roomy is a list with room behind its end, and something in it.
func roomy[T any](l []T, odd T) []T { return append(slices.Clone(l), odd, odd)[:len(l)] }

// kept tells whether a roomy list is as it was, with the room behind it.
func kept[T comparable](l, was []T, odd T) bool {
	return slices.Equal(l[:len(was)+2], append(slices.Clone(was), odd, odd))
}

// spoil overwrites an answer and the room behind it.
func spoil(l []int) {
	l = l[:cap(l)]
	for i := range l {
		l[i] = 55
	}
}

func TestKeepsArguments(t *testing.T) {
	d := lab()
	d.Borders, d.Racks, d.Plates = roomy(d.Borders, -7), roomy(d.Racks, api.Rack{}), roomy(d.Plates, api.Plate{Rows: -7})
	d.Plates[0].Start = roomy(ids(1, 2, 3), -7)
	bad := []api.Req{reserve(7, 3, 3), release(99, 1), {Kind: 9, Ids: ids(2, 1)}, {Kind: 99, Ids: ids(2, 1)}}
	for i, r := range append(goods(), bad...) {
		for _, own := range owns() {
			q, o := r, roomy(own, -7)
			q.Ids = roomy(r.Ids, -7)
			want.Check(d, q)
			want.Volume(q)
			spoil(want.Must(d, q))
			spoil(want.Locks(d, q, o, 7))
			if !kept(q.Ids, r.Ids, -7) || !kept(o, own, -7) || !kept(d.Borders, rails(4), -7) || !kept(d.Racks, lab().Racks, api.Rack{}) || !kept(d.Plates[0].Start, ids(1, 2, 3), -7) {
				t.Fatal(i, r, own, q, o, d)
			}
			if got := fmt.Sprint(d.Plates[:3]); got != fmt.Sprint(append(slices.Clone(d.Plates), api.Plate{Rows: -7})) {
				t.Fatal(i, got)
			}
		}
	}
}

// TestKeepsAnswers writes into what was handed in: what was answered stays as it is.
func TestKeepsAnswers(t *testing.T) {
	for i, r := range goods() {
		for _, own := range [][]int{{1, 2, 9}, {9, 2, 1}} {
			q, o := r, slices.Clone(own)
			q.Ids = slices.Clone(r.Ids)
			must, locks, again := want.Must(lab(), q), want.Locks(lab(), q, o, 7), want.Locks(lab(), q, o, 7)
			spoil(q.Ids)
			spoil(o)
			spoil(again)
			if !slices.Equal(must, mustMust(lab(), r)) || !slices.Equal(locks, mustLocks(lab(), r, own, 7)) {
				t.Error(i, r, must, locks)
			}
		}
	}
}

// P15.5

func TestWhatFollows(t *testing.T) {
	r := rand.New(rand.NewSource(3))
	rises := func(l []int) bool {
		return slices.IsSorted(l) && len(slices.Compact(slices.Clone(l))) == len(l)
	}
	widest := -1 // how many more ids than 2 and the lanes a move locks at most
	for i, d := range rightDecks() {
		for range 2000 {
			q := anyReq(r, d)
			own := owns()[r.Intn(len(owns()))]
			must, locks := want.Must(d, q), want.Locks(d, q, own, r.Intn(20)-2)
			for _, id := range must {
				if !slices.Contains(locks, id) {
					t.Fatal("not locked", i, q, must, locks)
				}
			}
			if !rises(must) || !rises(locks) || len(locks) > max(batch, len(d.Borders)+1, len(own)) {
				t.Fatal(i, q, own, must, locks)
			}
			if q.Kind == api.ReqMove {
				widest = max(widest, len(locks)-len(d.Borders)-1)
			}
		}
	}
	if widest != 0 { // a move along the whole deck locks all lanes and two wells
		t.Error(widest)
	}
}
