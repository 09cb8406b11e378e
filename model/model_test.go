package model_test

import (
	"fmt"
	"math"
	"math/rand"
	"slices"
	"testing"

	"deckhand/api"
	"deckhand/model"
	"deckhand/want"
	"deckhand/zone"
)

const (
	most  = 1<<63 - 1
	least = -1 << 63
	last  = 1<<31 - 1 // the greatest version
	vast  = 1 << 40   // the greatest volume
	flow  = 1 << 60   // the most that goes in or out
	notes = 8         // how many changes are kept of each well
	hold  = 40        // what an arm may own
)

// ids is a list of numbers, of a short form.
func ids(l ...int) []int { return l }

// from is n numbers from a first one on.
func from(first, n int) []int {
	l := make([]int, n)
	for i := range l {
		l[i] = first + i
	}
	return l
}

// bits is the bits of so many nanolitres as microlitres.
func bits(n int) uint64 { return math.Float64bits(float64(n) / 1000) }

// The requests of each kind, in a short form; volumes in nanolitres.
func reserve(l ...int) api.Req { return api.Req{Kind: 1, Ids: l} }
func release(l ...int) api.Req { return api.Req{Kind: 2, Ids: l} }
func free() api.Req            { return api.Req{Kind: 3} }
func move(a, b, n int) api.Req { return api.Req{Kind: 4, A: a, B: b, Vol: bits(n)} }
func fill(a, n int) api.Req    { return api.Req{Kind: 5, A: a, Vol: bits(n)} }
func waste(a, n int) api.Req   { return api.Req{Kind: 6, A: a, Vol: bits(n)} }
func take(a int) api.Req       { return api.Req{Kind: 7, A: a} }
func drop() api.Req            { return api.Req{Kind: 8} }
func ask(a int) api.Req        { return api.Req{Kind: 9, A: a} }
func since(a, ver int) api.Req { return api.Req{Kind: 10, A: a, Ver: ver} }

// The answers, in a short form.
func no(err api.Errno, id int) api.Resp { return api.Resp{Err: err, Id: id} }
func many(n int) api.Resp               { return api.Resp{N: n} }
func tip(id int) api.Resp               { return api.Resp{Id: id} }
func holds(n, ver int) api.Resp         { return api.Resp{N: n, Ver: ver} }

// same tells whether two answers, decks or models are; what is printed tells nil and empty lists not apart.
func same(a, b any) bool { return fmt.Sprint(a) == fmt.Sprint(b) }

// rails is n lanes that are 9 wide.
func rails(n int) []float64 {
	l := make([]float64, n+1)
	for i := range l {
		l[i] = float64(9 * i)
	}
	return l
}

func plate(rows, cols int, x, pitch, reach float64, most int, start ...int) api.Plate {
	return api.Plate{Rows: rows, Cols: cols, X: x, Pitch: pitch, Reach: reach, Cap: most, Start: start}
}

func rack(rows, cols int, x, pitch, reach float64) api.Rack {
	return api.Rack{Rows: rows, Cols: cols, X: x, Pitch: pitch, Reach: reach}
}

// lab is a deck of three arms and 65 ids. The wells 0 and 3 cover the lanes 60 and 61, 1 and 4 the lanes 61 and 62, 2 and 5 the lanes 62 and 63; 6 to 53 cover 64, 54 covers 63. The tip 55 covers 60, 56 covers 61, 57 to 59 cover 61 and 62. 60 to 64 are the lanes.
func lab() api.Deck {
	return api.Deck{
		Borders: rails(5),
		Plates:  []api.Plate{plate(2, 3, 4.5, 9, 4.5, 100, 40, 0, 100, 7), plate(4, 12, 37, 0.5, 0, 5000), plate(1, 1, 31, 0, 0, vast, vast)},
		Racks:   []api.Rack{rack(1, 2, 1, 16, 0), rack(3, 1, 18, 0, 3)},
		Arms:    3,
	}
}

// small is a deck of two wells (0, 1), a tip (2), two lanes (3, 4) and two arms; the wells cover 3, the tip 4.
func small() api.Deck {
	return api.Deck{Borders: rails(2), Plates: []api.Plate{plate(1, 2, 1, 1, 0, 100, 40)}, Racks: []api.Rack{rack(1, 1, 10, 0, 0)}, Arms: 2}
}

// shop is a deck of three arms with many tips: the wells 0 to 5 cover one of the lanes 56 to 58 each, 6 and 7 two of them, the tips 8 to 55 the lane 59.
func shop() api.Deck {
	return api.Deck{
		Borders: rails(4),
		Plates:  []api.Plate{plate(2, 3, 4, 9, 2, 200, 90, 90, 90), plate(1, 2, 9, 9, 3, 300, 100)},
		Racks:   []api.Rack{rack(4, 12, 28, 0.5, 0)},
		Arms:    3,
	}
}

// full is a deck that has as many of everything as may be.
func full() api.Deck {
	d := api.Deck{Borders: rails(24), Arms: 8}
	for i := range 4 {
		d.Plates = append(d.Plates, plate(8, 12, 4.5, 18, float64(9*i), vast, slices.Repeat(ids(vast), 96)...))
		d.Racks = append(d.Racks, rack(8, 12, 207, -18, float64(50*i)))
	}
	return d
}

// rightDecks are decks that are right, each with another model at first.
func rightDecks() []api.Deck {
	bare := api.Deck{Borders: rails(5), Arms: 8}
	wellsOnly := api.Deck{Borders: []float64{math.Inf(-1), 0, math.Inf(1)}, Plates: []api.Plate{plate(1, 2, -1, 1, 0, 1, 1), plate(3, 1, 0, -5, math.Inf(1), 50)}, Arms: 2}
	tipsOnly := api.Deck{Borders: rails(3), Racks: []api.Rack{rack(2, 3, 0, 9, 4.5)}, Arms: 1}
	return []api.Deck{lab(), small(), full(), bare, wellsOnly, tipsOnly, shop()}
}

// wrong is a deck that is refused, and as what.
type wrong struct {
	d   api.Deck
	err api.Errno
}

// wrongDecks are decks like lab of which something is wrong.
func wrongDecks() []wrong {
	l := []wrong{{api.Deck{}, api.ErrArg}}
	add := func(err api.Errno, do func(d *api.Deck)) {
		d := lab()
		do(&d)
		l = append(l, wrong{d, err})
	}
	add(api.ErrArg, func(d *api.Deck) { d.Borders = d.Borders[:1] })
	add(api.ErrLong, func(d *api.Deck) { d.Borders = rails(25) })
	add(api.ErrNaN, func(d *api.Deck) { d.Borders[2] = math.NaN() })
	add(api.ErrRail, func(d *api.Deck) { d.Borders[4] = 27 })
	add(api.ErrArms, func(d *api.Deck) { d.Arms = 0 })
	add(api.ErrArms, func(d *api.Deck) { d.Arms = 9 })
	add(api.ErrLong, func(d *api.Deck) { d.Plates = slices.Repeat(d.Plates, 2) })
	add(api.ErrPlate, func(d *api.Deck) { d.Plates[1].Cap = 0 })
	add(api.ErrPlate, func(d *api.Deck) { d.Plates[0].Start[1] = 101 })
	add(api.ErrRack, func(d *api.Deck) { d.Racks[1].Rows = 0 })
	add(api.ErrLong, func(d *api.Deck) { d.Plates[0].Rows, d.Plates[0].Cols = 32, 12 })
	// What is described, but lies off the rail.
	add(api.ErrNaN, func(d *api.Deck) { d.Plates[0].X = math.NaN() })
	add(api.ErrBelow, func(d *api.Deck) { d.Plates[1].Reach = -1 })
	add(api.ErrOut, func(d *api.Deck) { d.Racks[1].X = 99 })
	return l
}

// book is what a model must be, with all that ever happened to it.
type book struct {
	d              api.Deck
	caps           []int
	vols           []int
	vers           []int          // of each well the version that it had ahead of all changes
	did            [][]api.Change // all changes of each well
	tips           []api.Tip
	owners         []int
	start, in, out int
}

// open is the book of a right deck at first.
func open(d api.Deck) *book {
	b := &book{d: d}
	for _, p := range d.Plates {
		for i := range p.Rows * p.Cols {
			vol := 0
			if i < len(p.Start) {
				vol = p.Start[i]
			}
			b.caps, b.vols, b.start = append(b.caps, p.Cap), append(b.vols, vol), b.start+vol
		}
	}
	b.vers, b.did = make([]int, len(b.vols)), make([][]api.Change, len(b.vols))
	for _, r := range d.Racks {
		b.tips = append(b.tips, slices.Repeat([]api.Tip{{State: 1}}, r.Rows*r.Cols)...)
	}
	b.owners = make([]int, len(b.vols)+len(b.tips)+len(d.Borders)-1)
	return b
}

// kept is the changes of a well that are kept.
func (b *book) kept(id int) []api.Change { return b.did[id][max(0, len(b.did[id])-notes):] }

func (b *book) ver(id int) int { return b.vers[id] + len(b.did[id]) }

// model is the model as the book has it, in memory of its own.
func (b *book) model() api.Model {
	m := api.Model{Deck: b.d, Owners: slices.Clone(b.owners)}
	m.Deck.Borders, m.Deck.Plates, m.Deck.Racks = slices.Clone(b.d.Borders), slices.Clone(b.d.Plates), slices.Clone(b.d.Racks)
	for i, p := range b.d.Plates {
		m.Deck.Plates[i].Start = slices.Clone(p.Start)
	}
	m.Stock = api.Stock{Tips: slices.Clone(b.tips), Start: b.start, In: b.in, Out: b.out}
	for id, vol := range b.vols {
		m.Stock.Cells = append(m.Stock.Cells, api.Cell{Cap: b.caps[id], Vol: vol, Ver: b.ver(id)})
		m.Stock.Logs = append(m.Stock.Logs, api.Log{Room: notes, Last: b.ver(id), List: slices.Clone(b.kept(id))})
	}
	return m
}

// copied is a book in new memory.
func (b *book) copied() *book {
	c := *b
	c.vols, c.did, c.tips, c.owners = slices.Clone(b.vols), slices.Clone(b.did), slices.Clone(b.tips), slices.Clone(b.owners)
	for id, l := range c.did {
		c.did[id] = slices.Clone(l)
	}
	return &c
}

// hand is the id of the tip in an arm's hand; -1, if there is none.
func (b *book) hand(who int) int {
	at := slices.Index(b.tips, api.Tip{State: 2, By: who})
	if at < 0 {
		return -1
	}
	return len(b.vols) + at
}

// owned is what an arm owns.
func (b *book) owned(who int) []int {
	var l []int
	for id, now := range b.owners {
		if now == who {
			l = append(l, id)
		}
	}
	return l
}

// needed is parts and the lanes that they cover, and all between these.
func (b *book) needed(parts ...int) []int {
	lo, hi := most, -1
	for _, id := range parts {
		s, _ := zone.Span(b.d, id)
		lo, hi = min(lo, s.Lo), max(hi, s.Hi)
	}
	return append(parts, from(len(b.vols)+len(b.tips)+lo, hi-lo+1)...)
}

// leastOf is the least number of a list of which something holds.
func leastOf(l []int, wrong func(id int) bool) (int, bool) {
	id, found := 0, false
	for _, n := range l {
		if wrong(n) && (!found || n < id) {
			id, found = n, true
		}
	}
	return id, found
}

// do is what the chapter asks for: the book is written on, or is as it was.
func (b *book) do(who int, r api.Req) api.Resp {
	if who < 1 || who > b.d.Arms {
		return no(api.ErrArms, 0)
	}
	if wrong := want.Check(b.d, r); wrong.Err != api.OK {
		return wrong
	}
	switch r.Kind {
	case api.ReqReserve, api.ReqRelease, api.ReqFree:
		return b.own(who, r)
	case api.ReqTake, api.ReqDrop:
		return b.handle(who, r)
	case api.ReqAsk:
		return holds(b.vols[r.A], b.ver(r.A))
	case api.ReqSince:
		return b.since(r)
	}
	return b.pipette(who, r)
}

func (b *book) own(who int, r api.Req) api.Resp {
	had := b.owned(who)
	all := slices.Concat(had, r.Ids)
	slices.Sort(all)
	switch r.Kind {
	case api.ReqReserve:
		if len(slices.Compact(all)) > hold {
			return no(api.ErrLimit, 0)
		}
		if id, ok := leastOf(r.Ids, func(id int) bool { return b.owners[id] != 0 && b.owners[id] != who }); ok {
			return no(api.ErrBusy, id)
		}
		b.pass(r.Ids, who)
	case api.ReqRelease:
		if id, ok := leastOf(r.Ids, func(id int) bool { return b.owners[id] != who }); ok {
			return no(api.ErrOwner, id)
		}
		b.pass(r.Ids, 0)
	default:
		b.pass(had, 0)
		return many(len(had))
	}
	return many(len(b.owned(who)))
}

// pass has all of a list be owned by somebody.
func (b *book) pass(l []int, to int) {
	for _, id := range l {
		b.owners[id] = to
	}
}

func (b *book) handle(who int, r api.Req) api.Resp {
	at := b.hand(who)
	if r.Kind == api.ReqDrop {
		if at < 0 {
			return no(api.ErrHand, 0)
		}
		b.tips[at-len(b.vols)] = api.Tip{State: 3}
		return tip(at)
	}
	if id, ok := leastOf(b.needed(r.A), func(id int) bool { return b.owners[id] != who }); ok {
		return no(api.ErrOwner, id)
	}
	switch t := &b.tips[r.A-len(b.vols)]; {
	case at >= 0:
		return no(api.ErrHand, 0)
	case t.State != 1:
		return no(api.ErrFresh, 0)
	default:
		*t = api.Tip{State: 2, By: who}
	}
	return tip(r.A)
}

func (b *book) since(r api.Req) api.Resp {
	now, kept := b.ver(r.A), b.kept(r.A)
	switch {
	case r.Ver < 0 || r.Ver > now:
		return no(api.ErrArg, 0)
	case now-r.Ver > len(kept):
		return no(api.ErrGone, 0)
	}
	return api.Resp{Ver: now, List: kept[len(kept)-(now-r.Ver):]}
}

// stops tells what is wrong with bringing n into a well, or out of it.
func (b *book) stops(id, n int, in bool) api.Errno {
	switch {
	case b.ver(id) == last:
		return api.ErrVer
	case !in && n > b.vols[id]:
		return api.ErrUnder
	case in && n > b.caps[id]-b.vols[id]:
		return api.ErrRoom
	}
	return api.OK
}

func (b *book) note(who, id, n int) {
	b.did[id] = append(b.did[id], api.Change{Ver: b.ver(id) + 1, By: who, N: n})
	b.vols[id] += n
}

func (b *book) pipette(who int, r api.Req) api.Resp {
	parts := ids(r.A)
	if r.Kind == api.ReqMove {
		parts = ids(r.A, r.B)
	}
	if id, ok := leastOf(b.needed(parts...), func(id int) bool { return b.owners[id] != who }); ok {
		return no(api.ErrOwner, id)
	}
	if b.hand(who) < 0 {
		return no(api.ErrHand, 0)
	}
	n, _ := want.Volume(r)
	err := b.stops(r.A, n, r.Kind == api.ReqFill)
	if r.Kind == api.ReqMove && err == api.OK {
		err = b.stops(r.B, n, true)
	}
	switch {
	case err != api.OK:
		return no(err, 0)
	case r.Kind == api.ReqFill && n > flow-b.in, r.Kind == api.ReqWaste && n > flow-b.out:
		return no(api.ErrOver, 0)
	}
	switch r.Kind {
	case api.ReqMove:
		b.note(who, r.A, -n)
		b.note(who, r.B, n)
	case api.ReqFill:
		b.note(who, r.A, n)
		b.in += n
	default:
		b.note(who, r.A, -n)
		b.out += n
	}
	return holds(n, b.ver(r.A))
}

// asked is a request of an arm, of a short form.
func asked(who int, r api.Req) api.Asked { return api.Asked{Who: who, Req: r} }

// after is the book of a right deck after some requests, all of which are done.
func after(d api.Deck, l ...api.Asked) *book {
	b := open(d)
	for _, a := range l {
		if b.do(a.Who, a.Req).Err != api.OK {
			panic("a request of the test is refused")
		}
	}
	return b
}

// busy is lab in the midst of work: 1 holds the tip 55, 2 holds 57, 58 is spent, 56 and 59 are fresh; the well 6 has had more changes than are kept.
func busy() *book {
	l := []api.Asked{
		asked(3, reserve(58, 61, 62)), asked(3, take(58)), asked(3, drop()), asked(3, free()),
		asked(2, reserve(57, 61, 62)), asked(2, take(57)), asked(2, free()), asked(2, reserve(64, 6, 7, 8, 9, 10)),
		asked(3, reserve(54, 63, 2)),
		asked(1, reserve(0, 1, 4, 55, 56, 58, 60, 61, 62)), asked(1, take(55)), asked(1, fill(0, 10)), asked(1, move(0, 1, 20)),
	}
	for i := range 12 {
		l = append(l, asked(2, fill(6, 10+i)))
	}
	return after(lab(), l...)
}

// ending is lab of which versions end, and as much has come in and gone out as may, but for 4 and 9: 1 owns all wells but those of the second plate, and all lanes, and holds the tip 55; the wells 1 and 54 have the last version, 0 and 4 the one ahead of it.
func ending() *book {
	b := after(lab(), asked(1, reserve(0, 1, 2, 3, 4, 5, 54, 55, 60, 61, 62, 63, 64)), asked(1, take(55)))
	b.in, b.out = flow-4, flow-9
	b.vers[1], b.vers[54], b.vers[0], b.vers[4] = last, last, last-1, last-1
	// Together 5 more than at first.
	b.vols[0], b.vols[1], b.vols[2], b.vols[4], b.vols[5] = 42, 50, 30, 20, 3
	return b
}

// crowded is lab of which 1 owns 38 wells of the second plate, 2 owns two, and 3 owns the lane 64 and more than an arm may get.
func crowded() *book {
	b := open(lab())
	b.pass(from(6, 38), 1)
	b.pass(ids(44, 45), 2)
	b.pass(slices.Concat(from(0, 6), from(46, 18)), 3)
	b.pass(from(54, 11), 3)
	return b
}

// tooMuch is lab of which 1 owns 41 parts, as no reserving leads to.
func tooMuch() *book {
	b := open(lab())
	b.pass(from(0, 41), 1)
	return b
}

// books are right books, of each deck that is right one at least.
func books() []*book {
	l := []*book{busy(), ending(), crowded(), tooMuch()}
	for _, d := range rightDecks() {
		l = append(l, open(d))
	}
	return l
}

// wrongModels are models that are not right, by what is wrong with them; most are busy but for that.
func wrongModels() map[string]api.Model {
	l := map[string]api.Model{"none": {}}
	add := func(what string, do func(m *api.Model)) {
		m := busy().model()
		do(&m)
		l[what] = m
	}
	for _, w := range wrongDecks() {
		add(fmt.Sprint("a deck that is refused ", len(l)), func(m *api.Model) { m.Deck = w.d })
	}
	add("another deck's stock", func(m *api.Model) { m.Stock = open(small()).model().Stock })
	add("another deck", func(m *api.Model) { m.Deck = small() })
	add("no stock", func(m *api.Model) { m.Stock = api.Stock{} })
	add("no deck", func(m *api.Model) { m.Deck = api.Deck{} })
	add("a volume more", func(m *api.Model) { m.Stock.Cells[0].Vol++ })
	add("a cell too many", func(m *api.Model) { m.Stock.Cells = append(m.Stock.Cells, api.Cell{Cap: 1}) })
	add("a log too few", func(m *api.Model) { m.Stock.Logs = m.Stock.Logs[1:] })
	add("another version", func(m *api.Model) { m.Stock.Cells[6].Ver++ })
	add("a tip in two hands", func(m *api.Model) { m.Stock.Tips[3] = api.Tip{State: 2, By: 1} })
	add("a tip of no arm", func(m *api.Model) { m.Stock.Tips[1] = api.Tip{State: 2, By: 4} })
	add("another In", func(m *api.Model) { m.Stock.In++ })
	add("no owners", func(m *api.Model) { m.Owners = nil })
	add("an owner too few", func(m *api.Model) { m.Owners = m.Owners[:64] })
	add("an owner too many", func(m *api.Model) { m.Owners = append(m.Owners, 0) })
	for _, who := range []int{-1, least, 4, 5, 8, 9, most, 1<<32 + 1} {
		for _, id := range []int{0, 6, 59, 64} {
			add(fmt.Sprint("the owner ", who, " of ", id), func(m *api.Model) { m.Owners[id] = who })
		}
	}
	add("fewer arms", func(m *api.Model) { m.Deck.Arms = 2 })
	add("fewer arms than owners", func(m *api.Model) { m.Deck.Arms, m.Stock = 2, open(lab()).model().Stock })
	return l
}

// isNone tells whether a model is what is told beside an error.
func isNone(m api.Model) bool { return same(m, api.Model{}) }

// step holds what Do answers against what it must, and the model against the book's.
func step(t *testing.T, b *book, m api.Model, a api.Asked, right api.Resp) api.Model {
	t.Helper()
	was := fmt.Sprint(m)
	next, got := model.Do(m, a.Who, a.Req)
	if !same(got, right) || !same(next, b.model()) || fmt.Sprint(m) != was {
		t.Error(a, got, right)
	}
	return next
}

// told is a request of an arm, and what it must be told.
type told struct {
	who  int
	r    api.Req
	want api.Resp
}

// each does each request by itself at a book's model.
func each(t *testing.T, b *book, l []told) {
	t.Helper()
	for i, c := range l {
		m, after := b.model(), b.copied()
		if right := after.do(c.who, c.r); !same(right, c.want) {
			t.Error(i, "the test's own answer", right, c.want)
		}
		next, got := model.Do(m, c.who, c.r)
		if !same(got, c.want) || !same(next, after.model()) || !same(m, b.model()) {
			t.Error(i, c.who, c.r, got, c.want)
		}
		if c.want.Err != api.OK && !same(next, b.model()) {
			t.Error(i, "a refusal changes the model")
		}
	}
}

// P16.1

func TestNew(t *testing.T) {
	m, err := model.New(small())
	right := api.Model{
		Deck:   small(),
		Stock:  api.Stock{Cells: []api.Cell{{Cap: 100, Vol: 40}, {Cap: 100}}, Logs: []api.Log{{Room: 8}, {Room: 8}}, Tips: []api.Tip{{State: api.TipFresh}}, Start: 40},
		Owners: ids(0, 0, 0, 0, 0),
	}
	if err != api.OK || !same(m, right) {
		t.Error(m, err)
	}
	for i, d := range rightDecks() {
		if m, err := model.New(d); err != api.OK || !same(m, open(d).model()) || !model.Right(m) || len(m.Owners) != []int{65, 5, 792, 5, 7, 9, 60}[i] {
			t.Error(i, m, err)
		}
	}
	for i, w := range wrongDecks() {
		if m, err := model.New(w.d); err != w.err || !isNone(m) {
			t.Error(i, m, err)
		}
	}
}

func TestRight(t *testing.T) {
	for i, b := range books() {
		if m := b.model(); !model.Right(m) {
			t.Error(i, m)
		}
	}
	for what, m := range wrongModels() {
		if model.Right(m) {
			t.Error(what)
		}
	}
}

// TestRightOfOwners has each number as the owner of each id.
func TestRightOfOwners(t *testing.T) {
	for _, d := range rightDecks()[1:] {
		for _, id := range []int{0, 1, len(open(d).owners) - 1} {
			for who := -2; who <= 10; who++ {
				m := open(d).model()
				m.Owners[id] = who
				if model.Right(m) != (who >= 0 && who <= d.Arms) {
					t.Error(d.Arms, id, who)
				}
			}
		}
	}
	// An arm may own what it likes, and more than it may reserve.
	b := open(lab())
	b.pass(from(0, 65), 3)
	if !model.Right(b.model()) {
		t.Error("all")
	}
}

// P16.2

func TestDoOfWrongModels(t *testing.T) {
	for what, m := range wrongModels() {
		was := fmt.Sprint(m)
		for _, who := range []int{-1, 0, 1, 3, 4, 9} {
			for _, r := range []api.Req{{}, {Kind: 99}, reserve(), reserve(3), reserve(99), release(0), free(), move(0, 1, 1), move(1, 1, 1), fill(0, 1), fill(99, 0), waste(0, 1), take(56), drop(), ask(0), since(6, 12)} {
				next, got := model.Do(m, who, r)
				if !same(got, no(api.ErrModel, 0)) || !isNone(next) || fmt.Sprint(m) != was {
					t.Fatal(what, who, r, got)
				}
			}
		}
	}
}

func TestDoOfArms(t *testing.T) {
	for _, b := range []*book{busy(), open(lab())} {
		for _, who := range []int{least, -1, 0, 4, 5, 8, 9, most, 1<<32 + 1} {
			for _, r := range []api.Req{{}, {Kind: 99}, reserve(3), reserve(), release(0), free(), move(0, 4, 1), fill(0, 1), fill(99, 1), waste(0, 1), take(56), drop(), ask(0), ask(99), since(6, 12), since(6, -1)} {
				step(t, b, b.model(), asked(who, r), no(api.ErrArms, 0))
			}
		}
	}
	each(t, busy(), []told{{1, ask(0), holds(30, 2)}, {2, ask(0), holds(30, 2)}, {3, ask(0), holds(30, 2)}, {1, ask(2), holds(100, 0)}})
	each(t, open(full()), []told{{8, reserve(791), many(1)}, {9, reserve(791), no(api.ErrArms, 0)}})
}

func TestDoOfRefused(t *testing.T) {
	each(t, busy(), []told{
		{1, api.Req{}, no(api.ErrKind, 0)}, {1, api.Req{Kind: 11}, no(api.ErrKind, 0)}, {2, api.Req{Kind: -1, Ids: ids(1)}, no(api.ErrKind, 0)},
		{1, api.Req{Kind: 3, A: 1}, no(api.ErrForm, 0)}, {1, api.Req{Kind: 8, Ver: 1}, no(api.ErrForm, 0)}, {1, api.Req{Kind: 9, A: 1, Ids: ids(0)}, no(api.ErrForm, 0)}, {1, api.Req{Kind: 1, Ids: ids(3), B: 1}, no(api.ErrForm, 0)},
		{1, reserve(), no(api.ErrArg, 0)}, {1, release(), no(api.ErrArg, 0)}, {1, reserve(from(0, 17)...), no(api.ErrLong, 0)}, {1, release(from(0, 17)...), no(api.ErrLong, 0)}, {1, reserve(5, 3, 5), no(api.ErrTwice, 5)}, {1, release(0, 4, 4), no(api.ErrTwice, 4)}, {1, reserve(3, 65), no(api.ErrNone, 65)}, {1, release(0, -1), no(api.ErrNone, -1)}, {1, reserve(6, 63, 99), no(api.ErrNone, 99)}, {1, release(6, 63, 99), no(api.ErrNone, 99)}, {3, reserve(0, 0), no(api.ErrTwice, 0)},
		{1, move(55, 0, 1), no(api.ErrNone, 55)}, {1, move(0, 55, 1), no(api.ErrNone, 55)}, {1, move(3, 3, 1), no(api.ErrArg, 0)}, {1, fill(-1, 1), no(api.ErrNone, -1)}, {1, waste(60, 1), no(api.ErrNone, 60)}, {1, take(54), no(api.ErrNone, 54)}, {1, take(60), no(api.ErrNone, 60)}, {1, ask(55), no(api.ErrNone, 55)}, {1, since(-1, 0), no(api.ErrNone, -1)},
		{1, fill(0, 0), no(api.ErrArg, 0)}, {1, fill(0, -1), no(api.ErrBelow, 0)}, {1, fill(0, 2*vast), no(api.ErrOver, 0)}, {3, waste(3, 0), no(api.ErrArg, 0)}, {3, move(3, 5, -5), no(api.ErrBelow, 0)}, {3, api.Req{Kind: 5, A: 3, Vol: math.Float64bits(math.NaN())}, no(api.ErrNaN, 0)}, {3, api.Req{Kind: 6, A: 3, Vol: math.Float64bits(math.Inf(-1))}, no(api.ErrInf, 0)},
	})
}

func TestReserve(t *testing.T) {
	each(t, busy(), []told{
		// What is nobody's, the arm's already, another arm's, some of each.
		{1, reserve(3), many(10)}, {1, reserve(5, 3), many(11)}, {1, reserve(60), many(9)}, {1, reserve(62, 0, 4), many(9)}, {1, reserve(3, 60), many(10)}, {3, reserve(59), many(4)}, {2, reserve(53), many(7)},
		{1, reserve(63), no(api.ErrBusy, 63)}, {1, reserve(64, 3, 63), no(api.ErrBusy, 63)}, {1, reserve(64, 6), no(api.ErrBusy, 6)}, {1, reserve(6, 64), no(api.ErrBusy, 6)}, {1, reserve(3, 60, 7), no(api.ErrBusy, 7)}, {3, reserve(54, 55), no(api.ErrBusy, 55)}, {2, reserve(0), no(api.ErrBusy, 0)}, {2, reserve(1, 0), no(api.ErrBusy, 0)},
	})
	// Two arms that ask for one lane: the chapter's example.
	b := open(small())
	m := b.model()
	for i, c := range []told{
		{1, reserve(3), many(1)}, {2, reserve(3), no(api.ErrBusy, 3)}, {2, reserve(4, 3), no(api.ErrBusy, 3)}, {2, reserve(4), many(1)}, {1, release(3), many(0)}, {2, reserve(3), many(2)}, {1, reserve(3), no(api.ErrBusy, 3)}, {1, reserve(0, 1, 2), many(3)}, {1, reserve(0, 1, 2), many(3)},
	} {
		if right := b.do(c.who, c.r); !same(right, c.want) {
			t.Error(i, right)
		}
		m = step(t, b, m, asked(c.who, c.r), c.want)
	}
	if !slices.Equal(m.Owners, ids(1, 1, 1, 2, 2)) {
		t.Error(m.Owners)
	}
}

// TestReserveLimit has arms own as much as they may, and more.
func TestReserveLimit(t *testing.T) {
	each(t, crowded(), []told{ // 1 owns 38
		{1, reserve(6), many(38)}, {1, reserve(from(6, 16)...), many(38)}, {2, reserve(44, 45), many(2)},
		{1, reserve(44), no(api.ErrBusy, 44)}, {1, reserve(44, 6), no(api.ErrBusy, 44)}, {1, reserve(0, 6, 44), no(api.ErrBusy, 0)},
		// All that is asked for counts, another arm's, too: the limit is ahead of it.
		{1, reserve(0, 44, 45), no(api.ErrLimit, 0)}, {1, reserve(64, 46, 0, 6), no(api.ErrLimit, 0)}, {1, reserve(60, 61, 62, 63), no(api.ErrLimit, 0)}, {1, reserve(6, 7, 8, 44, 45), no(api.ErrBusy, 44)}, {1, reserve(64, 64, 44, 45), no(api.ErrTwice, 64)},
	})
	b := crowded()
	b.pass(from(0, 65), 0)
	b.pass(from(6, 38), 1)
	each(t, b, []told{
		{1, reserve(0), many(39)}, {1, reserve(0, 1), many(40)}, {1, reserve(0, 1, 6, 7, 8, 9), many(40)}, {1, reserve(0, 1, 2), no(api.ErrLimit, 0)}, {1, reserve(64, 63, 62), no(api.ErrLimit, 0)}, {1, reserve(from(44, 16)...), no(api.ErrLimit, 0)}, {1, reserve(from(30, 16)...), many(40)}, {1, reserve(from(31, 16)...), no(api.ErrLimit, 0)}, {2, reserve(from(44, 16)...), many(16)},
	})
	// Who owns 40 gets none, who owns 41 is refused what is its own already.
	b.pass(ids(44, 45), 1)
	each(t, b, []told{{1, reserve(6, 7), many(40)}, {1, reserve(46), no(api.ErrLimit, 0)}, {1, reserve(6, 46), no(api.ErrLimit, 0)}, {1, release(6), many(39)}, {1, free(), many(40)}})
	each(t, tooMuch(), []told{{1, reserve(3), no(api.ErrLimit, 0)}, {1, reserve(41), no(api.ErrLimit, 0)}, {1, release(3), many(40)}, {1, free(), many(41)}, {2, reserve(41), many(1)}, {2, reserve(40), no(api.ErrBusy, 40)}})
}

func TestRelease(t *testing.T) {
	each(t, busy(), []told{
		{1, release(62, 0), many(7)}, {1, release(0), many(8)}, {1, release(0, 1, 4, 55, 56, 58, 60, 61, 62), many(0)}, {2, release(6), many(5)}, {3, release(2, 63), many(1)},
		// Nobody's, another arm's, some of each.
		{1, release(3), no(api.ErrOwner, 3)}, {1, release(6), no(api.ErrOwner, 6)}, {2, release(0), no(api.ErrOwner, 0)}, {2, release(6, 3), no(api.ErrOwner, 3)}, {1, release(64, 63, 3), no(api.ErrOwner, 3)}, {1, release(0, 64, 63), no(api.ErrOwner, 63)}, {1, release(62, 61, 64), no(api.ErrOwner, 64)},
	})
	// The tip in the hand and the volumes stay as they are.
	each(t, busy(), []told{{1, release(55), many(8)}, {1, release(60, 61, 62), many(6)}})
}

func TestFree(t *testing.T) {
	each(t, busy(), []told{{1, free(), many(9)}, {2, free(), many(6)}, {3, free(), many(3)}})
	each(t, open(lab()), []told{{1, free(), many(0)}, {3, free(), many(0)}})
	each(t, crowded(), []told{{1, free(), many(38)}, {2, free(), many(2)}, {3, free(), many(25)}})
	each(t, tooMuch(), []told{{1, free(), many(41)}, {2, free(), many(0)}})
}

// TestLacks has what an arm must own and does not: the least id is told, whatever else is wrong.
func TestLacks(t *testing.T) {
	each(t, busy(), []told{
		// 1 owns 0, 1, 4 and the lanes 60 to 62; 2 owns 6 to 10 and the lane 64; 3 owns 2, 54 and the lane 63.
		{1, fill(3, 1), no(api.ErrOwner, 3)}, {1, fill(2, 1), no(api.ErrOwner, 2)}, {3, fill(2, 1), no(api.ErrOwner, 62)}, {3, waste(2, 1), no(api.ErrOwner, 62)}, {3, waste(2, 101), no(api.ErrOwner, 62)}, {2, fill(0, 1), no(api.ErrOwner, 0)}, {2, waste(11, 1), no(api.ErrOwner, 11)}, {3, fill(6, 1), no(api.ErrOwner, 6)}, {3, fill(0, 1), no(api.ErrOwner, 0)},
		{1, move(0, 6, 1), no(api.ErrOwner, 6)}, {1, move(6, 0, 1), no(api.ErrOwner, 6)}, {1, move(2, 3, 1), no(api.ErrOwner, 2)}, {1, move(3, 2, 1), no(api.ErrOwner, 2)}, {2, move(6, 11, 1), no(api.ErrOwner, 11)}, {3, move(54, 2, 1), no(api.ErrOwner, 62)}, {3, move(2, 54, vast), no(api.ErrOwner, 62)},
		{1, take(57), no(api.ErrOwner, 57)}, {1, take(59), no(api.ErrOwner, 59)}, {2, take(56), no(api.ErrOwner, 56)}, {3, take(58), no(api.ErrOwner, 58)}, {3, take(55), no(api.ErrOwner, 55)},
	})
	// What is crossed on the way is needed, too.
	b := busy()
	b.pass(ids(2, 3, 5, 54), 1)
	each(t, b, []told{{1, move(0, 54, 1), no(api.ErrOwner, 63)}, {1, move(0, 5, 1), no(api.ErrOwner, 63)}, {1, move(2, 3, 1), no(api.ErrOwner, 63)}, {1, move(0, 4, 1), holds(1, 3)}, {1, fill(2, 1), no(api.ErrOwner, 63)}})
	b.pass(ids(61), 0)
	b.pass(ids(63), 1)
	each(t, b, []told{{1, move(0, 2, 1), no(api.ErrOwner, 61)}, {1, move(54, 3, 1), no(api.ErrOwner, 61)}, {1, move(54, 2, 1), no(api.ErrRoom, 0)}, {1, take(56), no(api.ErrOwner, 61)}, {1, take(58), no(api.ErrOwner, 61)}, {1, fill(0, 1), no(api.ErrOwner, 61)}})
}

func TestPipette(t *testing.T) {
	each(t, busy(), []told{
		// The well 0 holds 30 of the version 2, 1 holds 20 of 1, 4 nothing of 0; 6 holds 186 of 12.
		{1, fill(0, 5), holds(5, 3)}, {1, fill(0, 70), holds(70, 3)}, {1, fill(0, 71), no(api.ErrRoom, 0)}, {1, fill(0, vast), no(api.ErrRoom, 0)}, {1, fill(4, 100), holds(100, 1)}, {1, fill(4, 101), no(api.ErrRoom, 0)},
		{1, waste(0, 30), holds(30, 3)}, {1, waste(0, 31), no(api.ErrUnder, 0)}, {1, waste(4, 1), no(api.ErrUnder, 0)}, {1, waste(1, 1), holds(1, 2)}, {2, waste(6, 186), holds(186, 13)}, {2, waste(6, 187), no(api.ErrUnder, 0)},
		{1, move(0, 4, 30), holds(30, 3)}, {1, move(4, 0, 1), no(api.ErrUnder, 0)}, {1, move(0, 1, 30), holds(30, 3)}, {1, move(1, 4, 20), holds(20, 2)}, {1, move(1, 4, 21), no(api.ErrUnder, 0)}, {2, move(6, 7, 1), holds(1, 13)}, {2, move(7, 6, 1), no(api.ErrUnder, 0)},
		// 3 has no tip, and is told that ahead of what does not go in or out.
		{3, fill(54, 1), no(api.ErrHand, 0)}, {3, waste(54, 1), no(api.ErrHand, 0)}, {3, waste(54, vast), no(api.ErrHand, 0)},
	})
	b := busy()
	b.pass(ids(2, 62), 3)
	each(t, b, []told{{3, fill(2, 1), no(api.ErrHand, 0)}, {3, move(2, 54, 1), no(api.ErrHand, 0)}, {3, move(54, 2, 1), no(api.ErrHand, 0)}})
	b.tips[1] = api.Tip{State: 2, By: 3}
	each(t, b, []told{{3, fill(2, 1), no(api.ErrRoom, 0)}, {3, move(2, 54, 1), no(api.ErrRoom, 0)}, {3, move(54, 2, 1), no(api.ErrRoom, 0)}, {3, waste(54, vast), holds(vast, 1)}})
	// Halves go to the even one: 62.5 are 62, 187.5 are 188.
	each(t, busy(), []told{{1, api.Req{Kind: 5, A: 0, Vol: math.Float64bits(0.0625)}, holds(62, 3)}, {2, api.Req{Kind: 5, A: 6, Vol: math.Float64bits(0.1875)}, holds(188, 13)}})
	each(t, ending(), []told{
		// Versions that end: 1 and 54 have the last one, 0 and 4 the one ahead of it.
		{1, fill(1, 1), no(api.ErrVer, 0)}, {1, waste(54, 1), no(api.ErrVer, 0)}, {1, waste(54, vast), no(api.ErrVer, 0)}, {1, fill(0, 1), holds(1, last)}, {1, waste(4, 1), holds(1, last)}, {1, move(0, 4, 1), holds(1, last)}, {1, move(1, 0, 1), no(api.ErrVer, 0)}, {1, move(0, 1, 1), no(api.ErrVer, 0)}, {1, move(0, 1, 43), no(api.ErrUnder, 0)}, {1, move(2, 3, 4), holds(4, 1)},
		// As much as may come in or go out: 4 more, 9 more.
		{1, fill(5, 4), holds(4, 1)}, {1, fill(5, 5), no(api.ErrOver, 0)}, {1, fill(5, 97), no(api.ErrOver, 0)}, {1, fill(5, 98), no(api.ErrRoom, 0)}, {1, fill(1, 5), no(api.ErrVer, 0)}, {1, waste(2, 9), holds(9, 1)}, {1, waste(2, 10), no(api.ErrOver, 0)}, {1, waste(2, 31), no(api.ErrUnder, 0)},
	})
}

func TestTakeAndDrop(t *testing.T) {
	b := busy()
	each(t, b, []told{{1, take(56), no(api.ErrHand, 0)}, {1, take(55), no(api.ErrHand, 0)}, {1, take(58), no(api.ErrHand, 0)}, {1, drop(), tip(55)}, {2, drop(), tip(57)}, {3, drop(), no(api.ErrHand, 0)}})
	b.pass(ids(60, 61, 62, 55, 56, 57, 58, 59), 3)
	each(t, b, []told{{3, take(56), tip(56)}, {3, take(59), tip(59)}, {3, take(58), no(api.ErrFresh, 0)}, {3, take(55), no(api.ErrFresh, 0)}, {3, take(57), no(api.ErrFresh, 0)}, {1, take(56), no(api.ErrOwner, 56)}})
	// Where there are no wells, a tip's id may be 0.
	tips := after(rightDecks()[5], asked(1, reserve(0, 1, 2, 3, 6, 7, 8)))
	m := tips.model()
	for i, c := range []told{{1, drop(), no(api.ErrHand, 0)}, {1, take(0), tip(0)}, {1, take(1), no(api.ErrHand, 0)}, {1, take(0), no(api.ErrHand, 0)}, {1, drop(), tip(0)}, {1, take(0), no(api.ErrFresh, 0)}, {1, take(3), tip(3)}, {1, free(), many(7)}, {1, take(4), no(api.ErrOwner, 4)}, {1, drop(), tip(3)}, {1, drop(), no(api.ErrHand, 0)}} {
		if right := tips.do(c.who, c.r); !same(right, c.want) {
			t.Error(i, right)
		}
		m = step(t, tips, m, asked(c.who, c.r), c.want)
	}
}

func TestAsk(t *testing.T) {
	b := busy()
	for who := 1; who <= 3; who++ { // nobody needs to own anything, or to hold a tip
		each(t, b, []told{{who, ask(0), holds(30, 2)}, {who, ask(1), holds(20, 1)}, {who, ask(2), holds(100, 0)}, {who, ask(4), holds(0, 0)}, {who, ask(6), holds(186, 12)}, {who, ask(54), holds(vast, 0)}})
	}
	each(t, ending(), []told{{2, ask(1), holds(50, last)}, {2, ask(0), holds(42, last-1)}})
}

func TestSince(t *testing.T) {
	b := busy()
	changes := func(ver int, l ...api.Change) api.Resp { return api.Resp{Ver: ver, List: l} }
	for who := 1; who <= 3; who++ {
		each(t, b, []told{
			{who, since(0, 0), changes(2, api.Change{Ver: 1, By: 1, N: 10}, api.Change{Ver: 2, By: 1, N: -20})}, {who, since(0, 1), changes(2, api.Change{Ver: 2, By: 1, N: -20})}, {who, since(0, 2), changes(2)}, {who, since(0, 3), no(api.ErrArg, 0)}, {who, since(0, -1), no(api.ErrArg, 0)}, {who, since(0, least), no(api.ErrArg, 0)}, {who, since(0, most), no(api.ErrArg, 0)},
			{who, since(1, 0), changes(1, api.Change{Ver: 1, By: 1, N: 20})}, {who, since(2, 0), changes(0)}, {who, since(2, 1), no(api.ErrArg, 0)},
			{who, since(6, 3), no(api.ErrGone, 0)}, {who, since(6, 0), no(api.ErrGone, 0)}, {who, since(6, 11), changes(12, api.Change{Ver: 12, By: 2, N: 21})}, {who, since(6, 13), no(api.ErrArg, 0)}, {who, since(6, -1), no(api.ErrArg, 0)},
		})
		for ver := 4; ver <= 12; ver++ { // each version that is kept
			right := changes(12)
			for v := ver + 1; v <= 12; v++ {
				right.List = append(right.List, api.Change{Ver: v, By: 2, N: 9 + v})
			}
			each(t, b, []told{{who, since(6, ver), right}})
		}
	}
	each(t, ending(), []told{{2, since(1, last), changes(last)}, {2, since(1, last-1), no(api.ErrGone, 0)}, {2, since(1, last+1), no(api.ErrArg, 0)}, {2, since(0, 0), no(api.ErrGone, 0)}})
}

// requests are requests of each kind at lab, right ones and wrong ones.
func requests() []api.Req {
	l := []api.Req{{}, {Kind: 99}, {Kind: 3, B: 1}, free(), drop(), reserve(), release(), reserve(3, 3)}
	for _, s := range [][]int{{0}, {3}, {6}, {55}, {60}, {63, 64}, {3, 0}, {5, 3, 53}, {65}, {-1, 0}, {40, 41}, from(6, 16), from(22, 16), from(0, 17), {60, 61, 62}, {44, 45, 46, 47}} {
		l = append(l, reserve(s...), release(s...))
	}
	for _, a := range []int{-1, 0, 1, 2, 3, 4, 5, 6, 11, 54, 55, 64, 65} {
		l = append(l, ask(a), since(a, 0), since(a, 1), since(a, 4), since(a, 13), since(a, last), take(a+55))
		for _, n := range []int{-1, 0, 1, 5, 20, 31, 101, vast, 2 * vast} {
			l = append(l, fill(a, n), waste(a, n))
			if n < 0 || n > 101 {
				continue
			}
			for _, to := range []int{0, 1, 2, 4, 6, 7, 54, 56} {
				l = append(l, move(a, to, n))
			}
		}
	}
	return l
}

// TestDoOfAll holds what is answered against the book's.
func TestDoOfAll(t *testing.T) {
	for at, b := range []*book{busy(), ending(), crowded(), open(lab())} {
		m := b.model()
		was := fmt.Sprint(m)
		for who := 0; who <= 4; who++ {
			for _, r := range requests() {
				after := b.copied()
				right := after.do(who, r)
				next, got := model.Do(m, who, r)
				if !same(got, right) || !same(next, after.model()) {
					t.Fatal(at, who, r, got, right, next)
				}
			}
		}
		if fmt.Sprint(m) != was {
			t.Error("changed", at)
		}
	}
}

// P16.3

func TestRun(t *testing.T) {
	// None: the model as it is, right or not.
	for i, b := range books() {
		for _, l := range [][]api.Asked{nil, {}} {
			if m, all := model.Run(b.model(), l); !same(m, b.model()) || len(all) != 0 {
				t.Error(i, all)
			}
		}
	}
	for what, w := range wrongModels() {
		if m, all := model.Run(w, nil); !same(m, w) || len(all) != 0 {
			t.Error(what, all)
		}
		m, all := model.Run(w, []api.Asked{asked(1, ask(0)), asked(9, api.Req{}), asked(2, free())})
		if !isNone(m) || !same(all, slices.Repeat([]api.Resp{no(api.ErrModel, 0)}, 3)) {
			t.Error(what, all)
		}
	}
	// One.
	b := open(small())
	m, all := model.Run(b.model(), []api.Asked{asked(2, reserve(3))})
	if b.do(2, reserve(3)); !same(m, b.model()) || !same(all, []api.Resp{many(1)}) {
		t.Error(m, all)
	}
}

// TestRunOfMany has several arms that come and go, and are refused some of what they ask for.
func TestRunOfMany(t *testing.T) {
	b := open(small())
	var l []api.Asked
	var right []api.Resp
	for _, c := range []told{
		{1, fill(1, 5), no(api.ErrOwner, 1)}, {1, reserve(3, 4, 0, 1, 2), many(5)}, {1, fill(1, 5), no(api.ErrHand, 0)}, {2, reserve(3), no(api.ErrBusy, 3)}, {1, take(2), tip(2)}, {1, fill(1, 5), holds(5, 1)}, {2, ask(1), holds(5, 1)}, {2, fill(1, 5), no(api.ErrOwner, 1)}, {1, move(0, 1, 15), holds(15, 1)}, {3, ask(0), no(api.ErrArms, 0)}, {2, ask(5), no(api.ErrNone, 5)},
		{1, move(1, 0, 20), holds(20, 3)}, {1, waste(0, 45), holds(45, 3)}, {2, ask(0), holds(0, 3)}, {1, drop(), tip(2)}, {1, fill(0, 1), no(api.ErrHand, 0)}, {1, release(3, 1), many(3)}, {2, reserve(3, 1), many(2)}, {1, free(), many(3)}, {2, take(2), no(api.ErrOwner, 2)}, {2, reserve(4, 2), many(4)}, {2, take(2), no(api.ErrFresh, 0)},
		{2, since(1, 1), api.Resp{Ver: 3, List: []api.Change{{Ver: 2, By: 1, N: 15}, {Ver: 3, By: 1, N: -20}}}},
	} {
		if got := b.do(c.who, c.r); !same(got, c.want) {
			t.Error("the test's own answer", c, got)
		}
		l, right = append(l, asked(c.who, c.r)), append(right, c.want)
	}
	m, all := model.Run(open(small()).model(), l)
	if !same(m, b.model()) || !same(all, right) {
		t.Error(m, all)
	}
	// In two parts it is the same.
	for cut := range len(l) + 1 {
		half, one := model.Run(open(small()).model(), l[:cut])
		whole, two := model.Run(half, l[cut:])
		if !same(whole, m) || !same(append(one, two...), right) {
			t.Error(cut)
		}
	}
}

func TestHand(t *testing.T) {
	for i, b := range books() {
		m := b.model()
		for who := -1; who <= 9; who++ {
			if got := model.Hand(m, who); got != b.hand(who) {
				t.Error(i, who, got)
			}
		}
	}
	m := busy().model()
	for who, right := range map[int]int{1: 55, 2: 57, 3: -1, 0: -1, 4: -1, -1: -1, 9: -1, least: -1, most: -1, 1<<32 + 1: -1} {
		if got := model.Hand(m, who); got != right {
			t.Error(who, got)
		}
	}
	tips := after(rightDecks()[5], asked(1, reserve(0, 6, 7)), asked(1, take(0)))
	if got := model.Hand(tips.model(), 1); got != 0 {
		t.Error(got)
	}
	for what, m := range wrongModels() {
		for who := -1; who <= 9; who++ {
			if got := model.Hand(m, who); got != -1 {
				t.Error(what, who, got)
			}
		}
	}
}

// R3

// What lies in the room behind a list's end.
var (
	oddPlate  = api.Plate{Rows: -7}
	oddRack   = api.Rack{Rows: -7}
	oddCell   = api.Cell{Cap: -7, Vol: -7, Ver: -7}
	oddLog    = api.Log{Room: -7, Last: -7}
	oddChange = api.Change{Ver: -7, By: -7, N: -7}
	oddTip    = api.Tip{State: -7, By: -7}
)

// roomy is a list with room behind its end, and something in it.
func roomy[T any](l []T, odd T) []T { return append(slices.Clone(l), odd, odd)[:len(l)] }

// roomyModel is a book's model with room behind all lists.
func roomyModel(b *book) api.Model {
	m := b.model()
	m.Deck.Borders, m.Deck.Plates, m.Deck.Racks = roomy(m.Deck.Borders, -7), roomy(m.Deck.Plates, oddPlate), roomy(m.Deck.Racks, oddRack)
	for i, p := range m.Deck.Plates {
		m.Deck.Plates[i].Start = roomy(p.Start, -7)
	}
	m.Stock.Cells, m.Stock.Logs, m.Stock.Tips, m.Owners = roomy(m.Stock.Cells, oddCell), roomy(m.Stock.Logs, oddLog), roomy(m.Stock.Tips, oddTip), roomy(m.Owners, -7)
	for i, l := range m.Stock.Logs {
		m.Stock.Logs[i].List = roomy(l.List, oddChange)
	}
	return m
}

// whole is a list with two more in the room behind its end.
func whole[T any](l []T) []T { return l[:len(l)+2] }

// wholeText is a roomy model as a text, with the rooms behind all lists.
func wholeText(m api.Model) string {
	text := fmt.Sprint(m, whole(m.Deck.Borders), whole(m.Deck.Plates), whole(m.Deck.Racks), whole(m.Stock.Cells), whole(m.Stock.Logs), whole(m.Stock.Tips), whole(m.Owners))
	for i, p := range m.Deck.Plates {
		text += fmt.Sprint(i, whole(p.Start))
	}
	for i, l := range m.Stock.Logs {
		text += fmt.Sprint(i, whole(l.List))
	}
	return text
}

// fillUp writes something into all of a list's memory, and into the room behind its end.
func fillUp[T any](l []T, odd T) {
	l = l[:cap(l)]
	for i := range l {
		l[i] = odd
	}
}

// wipe writes into all of a model's memory.
func wipe(m api.Model) {
	for _, p := range m.Deck.Plates {
		fillUp(p.Start, 99)
	}
	for _, l := range m.Stock.Logs {
		fillUp(l.List, oddChange)
	}
	fillUp(m.Deck.Borders, 99)
	fillUp(m.Deck.Plates, oddPlate)
	fillUp(m.Deck.Racks, oddRack)
	fillUp(m.Stock.Cells, oddCell)
	fillUp(m.Stock.Logs, oddLog)
	fillUp(m.Stock.Tips, oddTip)
	fillUp(m.Owners, 99)
}

// samples are requests of each kind that are done at busy, and some that are refused.
func samples() []api.Asked {
	return []api.Asked{
		asked(1, reserve(5, 3)), asked(1, reserve(0)), asked(1, release(62, 0)), asked(1, free()), asked(1, move(0, 4, 1)), asked(1, fill(0, 1)), asked(2, waste(6, 1)), asked(2, fill(6, 1)), asked(1, drop()), asked(1, ask(0)), asked(3, since(6, 4)), asked(3, since(0, 0)), asked(3, since(6, 12)),
		asked(2, reserve(7, 3, 0)), asked(2, release(6, 0)), asked(3, fill(54, 1)), asked(1, fill(0, 71)), asked(1, take(56)), asked(1, reserve(5, 5)), asked(9, ask(0)), asked(1, since(6, 0)), asked(1, api.Req{Kind: 77, Ids: ids(2, 1)}),
	}
}

// TestKeepsArguments has all calls, and writes into all that they answer: what was handed in stays as it is.
func TestKeepsArguments(t *testing.T) {
	b := busy()
	taken := busy() // takes are done here
	taken.pass(ids(56, 61), 3)
	m, n := roomyModel(b), roomyModel(taken)
	was, wasToo := wholeText(m), wholeText(n)
	for i, a := range append(samples(), asked(3, take(56))) {
		a.Req.Ids = roomy(a.Req.Ids, -7)
		list := roomy([]api.Asked{a, a}, api.Asked{Who: -7})
		text := fmt.Sprint(whole(a.Req.Ids), whole(list))
		for _, m := range []api.Model{m, n} {
			next, got := model.Do(m, a.Who, a.Req)
			wipe(next)
			fillUp(got.List, oddChange)
			next, all := model.Run(m, list)
			wipe(next)
			fillUp(all, api.Resp{Id: -7})
			next, _ = model.Run(m, nil)
			wipe(next)
			model.Hand(m, 1)
			model.Right(m)
			first, _ := model.New(m.Deck)
			wipe(first)
		}
		if wholeText(m) != was || wholeText(n) != wasToo || fmt.Sprint(whole(a.Req.Ids), whole(list)) != text {
			t.Error(i, a)
		}
	}
	w := busy().model()
	w.Owners[0] = 9
	w.Deck.Arms = 2
	text := fmt.Sprint(w)
	next, _ := model.Run(w, nil)
	wipe(next)
	if fmt.Sprint(w) != text {
		t.Error("a wrong model", w)
	}
}

// TestKeepsAnswers writes into what was handed in: what was answered stays as it is.
func TestKeepsAnswers(t *testing.T) {
	for i, a := range samples() {
		b := busy()
		m := roomyModel(b)
		next, got := model.Do(m, a.Who, a.Req)
		ran, all := model.Run(m, []api.Asked{a})
		still, _ := model.Run(m, nil)
		first, _ := model.New(m.Deck)
		wipe(m)
		right := b.do(a.Who, a.Req)
		if !same(next, b.model()) || !same(got, right) || !same(ran, b.model()) || !same(all, []api.Resp{right}) || !same(still, busy().model()) || !same(first, open(lab()).model()) {
			t.Error(i, a)
		}
	}
	// What is told of a well's changes is not the log itself.
	m := busy().model()
	next, got := model.Do(m, 1, since(6, 4))
	fillUp(got.List, oddChange)
	if !same(next, busy().model()) {
		t.Error("shared", next)
	}
	next, got = model.Do(m, 1, since(6, 4))
	wipe(next)
	if len(got.List) != 8 || got.List[7] != (api.Change{Ver: 12, By: 2, N: 21}) {
		t.Error("shared", got)
	}
}

// P16.4

// oneOf is one of n numbers from a first one on, one that the arm owns rather than others.
func oneOf(r *rand.Rand, b *book, who, first, n int) int {
	for range 4 {
		if n > 0 {
			if id := first + r.Intn(n); b.owners[id] == who {
				return id
			}
		}
	}
	return first + r.Intn(n+1)
}

// anyReq is something that an arm may ask for: mostly the next thing on its way to a volume that is moved.
func anyReq(r *rand.Rand, b *book, who int) api.Req {
	if r.Intn(3) == 0 {
		return strayReq(r, b, who)
	}
	wells, tips := len(b.vols), len(b.tips)
	a, to := oneOf(r, b, who, 0, wells), oneOf(r, b, who, 0, wells)
	kind, parts := api.ReqFill+r.Intn(2), ids(a)
	switch {
	case b.hand(who) < 0:
		a = oneOf(r, b, who, wells, tips)
		kind, parts = api.ReqTake, ids(a)
	case r.Intn(3) == 0:
		kind, parts = api.ReqMove, ids(a, to)
	}
	need := b.needed(slices.Compact(parts)...)
	lacks := slices.ContainsFunc(need, func(id int) bool { return b.owners[id] != who })
	switch n := 1 + r.Intn(40); {
	case lacks && r.Intn(3) == 0:
		return free()
	case lacks:
		return reserve(need...)
	case kind == api.ReqTake:
		return take(a)
	case kind == api.ReqMove:
		return move(a, to, n)
	case kind == api.ReqFill:
		return fill(a, n)
	default:
		return waste(a, n)
	}
}

// strayReq is something that an arm may ask for, whatever it is about.
func strayReq(r *rand.Rand, b *book, who int) api.Req {
	wells, tips, all := len(b.vols), len(b.tips), len(b.owners)
	some := r.Perm(all)[:min(all, 1+r.Intn(4))]
	if own := b.owned(who); len(own) > 0 && r.Intn(3) > 0 {
		some = own[:1+r.Intn(min(len(own), 16))]
	}
	n := []int{0, -1, 1, 7, 60, 5000, vast, 2 * vast}[r.Intn(8)]
	a, to := oneOf(r, b, who, 0, wells), oneOf(r, b, who, 0, wells)
	switch r.Intn(16) {
	case 0, 1:
		return reserve(some...)
	case 2, 3:
		return release(some...)
	case 4:
		return free()
	case 5, 6:
		return move(a, to, n)
	case 7, 8:
		return fill(a, n)
	case 9, 10:
		return waste(a, n)
	case 11:
		return take(oneOf(r, b, who, wells, tips))
	case 12:
		return drop()
	case 13:
		return ask(a)
	}
	return since(a, r.Intn(12)-1)
}

// tried are the books that random requests are tried at.
func tried() []*book {
	var l []*book
	for _, b := range books() {
		if len(b.owners) < 700 { // the greatest deck is slow, and shows nothing that the others do not
			l = append(l, b)
		}
	}
	return l
}

func TestWhatFollows(t *testing.T) {
	r := rand.New(rand.NewSource(1))
	for at, b := range tried() {
		m, done := b.model(), map[int]int{}
		for i := range 1500 {
			who := 1 + r.Intn(b.d.Arms)
			q := anyReq(r, b, who)
			was := fmt.Sprint(m)
			right := b.do(who, q)
			next, got := model.Do(m, who, q)
			if !same(got, right) || !same(next, b.model()) || !model.Right(next) || fmt.Sprint(m) != was {
				t.Fatal(at, i, who, q, got, right)
			}
			if (got.Err != api.OK || q.Kind >= api.ReqAsk) && fmt.Sprint(next) != was {
				t.Fatal("changed", at, i, who, q)
			}
			if got.Err == api.OK {
				done[q.Kind]++
			}
			m = next
		}
		for kind := 1; kind <= 10 && len(b.owners) == 60; kind++ {
			if done[kind] < 10 {
				t.Error("too little is done", at, done)
			}
		}
	}
}

// apart tells whether no number stands in both lists.
func apart(a, b []int) bool {
	return !slices.ContainsFunc(a, func(n int) bool { return slices.Contains(b, n) })
}

// TestAnyOrder has two arms ask for what locks nothing in common: either one is first.
func TestAnyOrder(t *testing.T) {
	r := rand.New(rand.NewSource(2))
	done := [11]int{}
	for at, b := range tried() {
		if b.d.Arms < 2 {
			continue
		}
		for i := range 2500 {
			one := 1 + r.Intn(b.d.Arms)
			two := 1 + (one+r.Intn(b.d.Arms-1))%b.d.Arms
			p, q := anyReq(r, b, one), anyReq(r, b, two)
			if apart(want.Locks(b.d, p, b.owned(one), b.hand(one)), want.Locks(b.d, q, b.owned(two), b.hand(two))) {
				m, first := model.Run(b.model(), []api.Asked{asked(one, p), asked(two, q)})
				n, second := model.Run(b.model(), []api.Asked{asked(two, q), asked(one, p)})
				over := first[0].Err == api.ErrOver || first[1].Err == api.ErrOver || second[0].Err == api.ErrOver || second[1].Err == api.ErrOver
				if !over && (!same(m, n) || !same(first[0], second[1]) || !same(first[1], second[0])) {
					t.Fatal(at, i, one, p, two, q, first, second)
				}
				if first[0].Err == api.OK && first[1].Err == api.OK {
					done[p.Kind]++
				}
			}
			b.do(one, p)
		}
	}
	for kind := 1; kind <= 10; kind++ {
		if done[kind] < 3 {
			t.Error("too little is done", done)
		}
	}
}

// TestOverInOrder has two arms that fill as much as may come in: only the first one does.
func TestOverInOrder(t *testing.T) {
	b := ending()
	b.pass(ids(54, 63), 2)
	b.pass(ids(2), 0)
	b.tips[1] = api.Tip{State: 2, By: 2}
	b.vers[54] = 0
	b.vols[54], b.out = b.vols[54]-5, b.out+5
	p, q := asked(1, fill(0, 3)), asked(2, fill(54, 3))
	if !apart(want.Locks(b.d, p.Req, nil, -1), want.Locks(b.d, q.Req, nil, -1)) {
		t.Error("locks")
	}
	for _, l := range [][]api.Asked{{p, q}, {q, p}} {
		if _, all := model.Run(b.model(), l); all[0].Err != api.OK || all[1].Err != api.ErrOver {
			t.Error(l, all)
		}
	}
}

// TestGreatest has a few requests on the greatest deck.
func TestGreatest(t *testing.T) {
	b := open(full())
	m := b.model()
	for _, a := range []api.Asked{asked(8, reserve(b.needed(0)...)), asked(8, reserve(b.needed(384)...)), asked(8, take(384)), asked(8, waste(0, vast)), asked(8, fill(0, vast-1)), asked(7, reserve(b.needed(1)...)), asked(7, fill(1, 1)), asked(8, reserve(from(300, 16)...)), asked(8, reserve(from(316, 16)...)), asked(8, reserve(from(332, 16)...)), asked(8, drop()), asked(8, free()), asked(7, ask(0)), asked(7, since(0, 0))} {
		m = step(t, b, m, a, b.do(a.Who, a.Req))
	}
}
