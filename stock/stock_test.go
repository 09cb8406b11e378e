package stock_test

import (
	"math"
	"math/big"
	"math/rand"
	"slices"
	"testing"

	"deckhand/api"
	"deckhand/deck"
	"deckhand/stock"
)

const (
	most  = 1<<63 - 1
	least = -1 << 63
	last  = 1<<31 - 1 // the greatest version
	vast  = 1 << 40   // the greatest volume
	flow  = 1 << 60   // the most that goes in or out
	notes = 8         // how many changes are kept of each well
)

// rails is n lanes that are 9 wide.
func rails(n int) []float64 {
	l := make([]float64, n+1)
	for i := range l {
		l[i] = float64(9 * i)
	}
	return l
}

// plate is a plate that lies in the first lane.
func plate(rows, cols, most int, start ...int) api.Plate {
	return api.Plate{Rows: rows, Cols: cols, X: 4, Pitch: 0.01, Reach: 1, Cap: most, Start: start}
}

func rack(rows, cols int) api.Rack {
	return api.Rack{Rows: rows, Cols: cols, X: 5, Pitch: 0.01, Reach: 2}
}

// example is the chapter's.
func example() api.Deck {
	return api.Deck{Borders: rails(2), Plates: []api.Plate{plate(1, 2, 100, 40)}, Arms: 2}
}

// lab is a deck of nine wells (0 to 8), five tips (9 to 13), three lanes (14 to 16) and three arms.
func lab() api.Deck {
	return api.Deck{
		Borders: rails(3),
		Plates:  []api.Plate{plate(2, 3, 100, 40, 0, 100, 7), plate(1, 2, 5000), plate(1, 1, vast, vast)},
		Racks:   []api.Rack{rack(1, 3), rack(2, 1)},
		Arms:    3,
	}
}

// full is a deck that has as many of everything as may be, of which all wells are full.
func full() api.Deck {
	d := api.Deck{Borders: rails(api.MaxLanes), Arms: api.MaxArms}
	for range 4 {
		d.Plates = append(d.Plates, plate(8, 12, vast, slices.Repeat([]int{vast}, 96)...))
		d.Racks = append(d.Racks, rack(32, 3))
	}
	return d
}

// rightDecks are decks that are right, each with another stock at first.
func rightDecks() []api.Deck {
	empty := api.Deck{Borders: rails(2), Plates: []api.Plate{plate(1, 2, 100)}, Arms: 2}
	brimful := api.Deck{Borders: rails(2), Plates: []api.Plate{plate(1, 2, 100, 100, 100)}, Arms: 2}
	tipsOnly := api.Deck{Borders: rails(1), Racks: []api.Rack{rack(1, 1), rack(3, 2)}, Arms: 1}
	bare := api.Deck{Borders: rails(5), Arms: 8}
	least := api.Deck{Borders: rails(1), Plates: []api.Plate{plate(1, 1, 1), plate(1, 1, 1, 1), plate(1, 1, 1, 0)}, Racks: []api.Rack{rack(1, 1)}, Arms: 1}
	return []api.Deck{example(), lab(), full(), empty, brimful, tipsOnly, bare, least}
}

// wrong is a deck that is refused, and as what.
type wrong struct {
	d   api.Deck
	err api.Errno
}

// wrongDecks are decks like lab of which something is wrong.
func wrongDecks() []wrong {
	l := []wrong{{api.Deck{}, api.ErrArg}}
	add := func(err api.Errno, do func(d *api.Deck)) {
		d := lab()
		do(&d)
		l = append(l, wrong{d, err})
	}
	add(api.ErrArg, func(d *api.Deck) { d.Borders = d.Borders[:1] })
	add(api.ErrLong, func(d *api.Deck) { d.Borders = rails(25) })
	add(api.ErrNaN, func(d *api.Deck) { d.Borders[2] = math.NaN() })
	add(api.ErrRail, func(d *api.Deck) { d.Borders[2] = 9 })
	add(api.ErrArms, func(d *api.Deck) { d.Arms = 0 })
	add(api.ErrArms, func(d *api.Deck) { d.Arms = 9 })
	add(api.ErrLong, func(d *api.Deck) { d.Racks = slices.Repeat(d.Racks, 3) })
	add(api.ErrPlate, func(d *api.Deck) { d.Plates[1].Cap = 0 })
	add(api.ErrPlate, func(d *api.Deck) { d.Plates[0].Start[0] = 101 })
	add(api.ErrPlate, func(d *api.Deck) { d.Plates[0].Start[3] = -1 })
	add(api.ErrPlate, func(d *api.Deck) { d.Plates[2].Start = []int{1, 1} })
	add(api.ErrRack, func(d *api.Deck) { d.Racks[1].Rows = 0 })
	add(api.ErrLong, func(d *api.Deck) { d.Plates[0].Rows, d.Plates[0].Cols = 32, 13 })
	// What is described, but lies off the rail.
	add(api.ErrNaN, func(d *api.Deck) { d.Plates[0].X = math.NaN() })
	add(api.ErrBelow, func(d *api.Deck) { d.Plates[2].Reach = -1 })
	add(api.ErrOut, func(d *api.Deck) { d.Racks[1].X = 99 })
	add(api.ErrRail, func(d *api.Deck) { d.Borders[2], d.Racks[1].X = 9, 99 })
	return l
}

// book is what a deck's stock must be, with all that ever happened to it.
type book struct {
	d              api.Deck
	caps           []int
	vols           []int
	vers           []int          // of each well the version that it had ahead of all changes
	did            [][]api.Change // all changes of each well
	tips           []api.Tip
	start, in, out int
}

// open is the book of a right deck at first.
func open(d api.Deck) *book {
	wells, tips, _ := deck.Counts(d)
	b := &book{d: d, vers: make([]int, wells), did: make([][]api.Change, wells), tips: slices.Repeat([]api.Tip{{State: 1}}, tips)}
	for id := range wells {
		b.caps = append(b.caps, deck.Cap(d, id))
		b.vols = append(b.vols, deck.Start(d, id))
		b.start += deck.Start(d, id)
	}
	return b
}

// stock is the stock as the book has it.
func (b *book) stock() api.Stock {
	s := api.Stock{Tips: slices.Clone(b.tips), Start: b.start, In: b.in, Out: b.out}
	for id, vol := range b.vols {
		s.Cells = append(s.Cells, api.Cell{Cap: b.caps[id], Vol: vol, Ver: b.ver(id)})
		list := slices.Clone(b.did[id])
		s.Logs = append(s.Logs, api.Log{Room: notes, Last: b.ver(id), List: list[max(0, len(list)-notes):]})
	}
	return s
}

// copied is a book in new memory.
func (b *book) copied() *book {
	c := *b
	c.vols, c.did, c.tips = slices.Clone(b.vols), slices.Clone(b.did), slices.Clone(b.tips)
	for id, l := range c.did {
		c.did[id] = slices.Clone(l)
	}
	return &c
}

func (b *book) ver(id int) int      { return b.vers[id] + len(b.did[id]) }
func (b *book) isArm(by int) bool   { return 1 <= by && by <= b.d.Arms }
func (b *book) isWell(id int) bool  { return 0 <= id && id < len(b.vols) }
func (b *book) isTip(id int) bool   { return len(b.vols) <= id && id < len(b.vols)+len(b.tips) }
func (b *book) hand(by int) int     { return slices.Index(b.tips, api.Tip{State: 2, By: by}) }
func (b *book) note(by, id, n int)  { b.vols[id] += n; b.did[id] = append(b.did[id], b.next(by, id, n)) }
func (b *book) tip(id int) *api.Tip { return &b.tips[id-len(b.vols)] }

func (b *book) next(by, id, n int) api.Change { return api.Change{Ver: b.ver(id) + 1, By: by, N: n} }

// stops tells what is wrong with bringing n into a well, or out of it.
func (b *book) stops(id, n int, in bool) api.Errno {
	switch {
	case n < 1:
		return api.ErrArg
	case b.ver(id) == last:
		return api.ErrVer
	case !in && n > b.vols[id]:
		return api.ErrUnder
	case in && n > b.caps[id]-b.vols[id]:
		return api.ErrRoom
	}
	return api.OK
}

const (
	fill = iota
	waste
	move
	take
	drop
	kinds
)

// op is something that an arm does.
type op struct{ kind, by, a, b, n int }

// do is what the package answers.
func (o op) do(d api.Deck, s api.Stock) (api.Stock, api.Errno) {
	switch o.kind {
	case fill:
		return stock.Fill(d, s, o.by, o.a, o.n)
	case waste:
		return stock.Waste(d, s, o.by, o.a, o.n)
	case move:
		return stock.Move(d, s, o.by, o.a, o.b, o.n)
	case take:
		return stock.Take(d, s, o.by, o.a)
	}
	return stock.Drop(d, s, o.by)
}

// must is what the chapter asks for: the book is written on, or is as it was.
func (o op) must(b *book) api.Errno {
	isArm := b.isArm(o.by)
	switch {
	case !isArm:
		return api.ErrArg
	case o.kind == fill, o.kind == waste:
		return o.mustFlow(b)
	case o.kind == move:
		return o.mustMove(b)
	}
	return o.mustHandle(b)
}

func (o op) mustFlow(b *book) api.Errno {
	if !b.isWell(o.a) {
		return api.ErrNone
	}
	all, n := &b.in, o.n
	if o.kind == waste {
		all, n = &b.out, -o.n
	}
	if err := b.stops(o.a, o.n, o.kind == fill); err != api.OK {
		return err
	}
	if o.n > flow-*all {
		return api.ErrOver
	}
	*all += o.n
	b.note(o.by, o.a, n)
	return api.OK
}

func (o op) mustMove(b *book) api.Errno {
	switch {
	case !b.isWell(o.a), !b.isWell(o.b):
		return api.ErrNone
	case o.a == o.b:
		return api.ErrArg
	}
	for i, id := range []int{o.a, o.b} {
		if err := b.stops(id, o.n, i == 1); err != api.OK {
			return err
		}
	}
	b.note(o.by, o.a, -o.n)
	b.note(o.by, o.b, o.n)
	return api.OK
}

func (o op) mustHandle(b *book) api.Errno {
	at := b.hand(o.by)
	switch {
	case o.kind == take && !b.isTip(o.a):
		return api.ErrNone
	case o.kind == take && at >= 0, o.kind == drop && at < 0:
		return api.ErrHand
	case o.kind == take && b.tip(o.a).State != 1:
		return api.ErrFresh
	case o.kind == take:
		*b.tip(o.a) = api.Tip{State: 2, By: o.by}
	default:
		b.tips[at] = api.Tip{State: 3}
	}
	return api.OK
}

// after is the book of a right deck after some ops, all of which are done.
func after(d api.Deck, ops ...op) *book {
	b := open(d)
	for _, o := range ops {
		if o.must(b) != api.OK {
			panic("an op of the test is refused")
		}
	}
	return b
}

// busy is lab in the midst of work: arm 1 holds the tip 10, arm 3 the tip 9; 12 is spent, 11 and 13 are fresh; the wells 1, 3, 4 and 5 have room, 2 and 8 have none, 0 and 6 have more changes than are kept.
func busy() *book {
	ops := []op{{take, 1, 12, 0, 0}, {drop, 1, 0, 0, 0}, {take, 1, 10, 0, 0}, {take, 3, 9, 0, 0}, {waste, 2, 8, 0, 5}, {fill, 2, 8, 0, 5}, {waste, 3, 3, 0, 7}}
	for i := range 12 {
		ops = append(ops, op{fill, 1 + i%3, 6, 0, 10 + i}, op{move, 1, 0, 1, 1 + i%2})
	}
	return after(lab(), ops...)
}

// ending is lab of which versions end, and as much has come in and gone out as may, but for 4 and 9: the wells 1 and 7 have the last version, 0 and 6 the one ahead of it.
func ending() *book {
	b := open(lab())
	b.in, b.out = flow-4, flow-9
	b.vers[1], b.vers[7], b.vers[0], b.vers[6] = last, last, last-1, last-1
	// Together 5 more than at first.
	b.vols[0], b.vols[1], b.vols[2], b.vols[5], b.vols[6] = 42, 50, 0, 3, 50
	return b
}

// books are right books, of each deck that is right one at least.
func books() []*book {
	l := []*book{busy(), ending()}
	for _, d := range rightDecks() {
		l = append(l, open(d))
	}
	return l
}

// same tells whether two stocks are.
func same(a, b api.Stock) bool {
	return slices.Equal(a.Cells, b.Cells) && slices.Equal(a.Tips, b.Tips) && slices.EqualFunc(a.Logs, b.Logs, sameLog) && a.Start == b.Start && a.In == b.In && a.Out == b.Out
}

func sameLog(a, b api.Log) bool {
	return a.Room == b.Room && a.Last == b.Last && slices.Equal(a.List, b.List)
}

// isNone tells whether a stock is what is told beside an error.
func isNone(s api.Stock) bool {
	return len(s.Cells) == 0 && len(s.Logs) == 0 && len(s.Tips) == 0 && same(s, api.Stock{})
}

// wrongStocks are stocks that are not lab's, by what is wrong with them; most are busy but for that.
func wrongStocks() map[string]api.Stock {
	l := map[string]api.Stock{"none": {}}
	add := func(what string, do func(s *api.Stock)) {
		s := busy().stock()
		do(&s)
		l[what] = s
	}
	add("a cell too few", func(s *api.Stock) { s.Cells = s.Cells[:8] })
	add("a cell too many", func(s *api.Stock) { s.Cells = append(s.Cells, api.Cell{Cap: 100}) })
	add("no cells", func(s *api.Stock) { s.Cells = nil })
	add("a log too few", func(s *api.Stock) { s.Logs = s.Logs[:8] })
	add("a log too many", func(s *api.Stock) { s.Logs = append(s.Logs, api.Log{Room: notes}) })
	add("no logs", func(s *api.Stock) { s.Logs = nil })
	add("a well too many", func(s *api.Stock) {
		s.Cells, s.Logs = append(s.Cells, api.Cell{Cap: 100}), append(s.Logs, api.Log{Room: notes})
	})
	add("a well too few", func(s *api.Stock) { // an empty one
		s.Cells, s.Logs = slices.Delete(s.Cells, 4, 5), slices.Delete(s.Logs, 4, 5)
	})
	add("a tip too few", func(s *api.Stock) { s.Tips = s.Tips[:4] })
	add("a tip too many", func(s *api.Stock) { s.Tips = append(s.Tips, api.Tip{State: 1}) })
	add("no tips", func(s *api.Stock) { s.Tips = []api.Tip{} })
	wrongCells(add)
	wrongLogs(add)
	wrongTips(add)
	wrongSums(add)
	return l
}

func wrongCells(add func(string, func(*api.Stock))) {
	add("above its capacity", func(s *api.Stock) { s.Cells[2].Vol, s.Cells[1].Vol = 101, s.Cells[1].Vol-1 })
	add("below 0", func(s *api.Stock) { s.Cells[3].Vol, s.Cells[1].Vol = -1, s.Cells[1].Vol+1 })
	add("no capacity", func(s *api.Stock) { s.Cells[3].Cap = 0 })
	add("another capacity of the first", func(s *api.Stock) { s.Cells[0].Cap = 99 })
	add("another capacity of the last", func(s *api.Stock) { s.Cells[8].Cap = vast + 1 })
	add("the next plate's capacity", func(s *api.Stock) { s.Cells[5].Cap = 5000 })
	add("a version below 0", func(s *api.Stock) { s.Cells[4].Ver, s.Logs[4].Last = -1, -1 })
	add("a version behind the last one", func(s *api.Stock) { s.Cells[4].Ver, s.Logs[4].Last = last+1, last+1 })
	add("volumes that go round", func(s *api.Stock) { s.Cells[6].Vol, s.Cells[7].Vol = most, least+s.Cells[6].Vol+1 })
}

func wrongLogs(add func(string, func(*api.Stock))) {
	add("a log with more room", func(s *api.Stock) { s.Logs[0].Room = notes + 1 })
	add("a log with less room", func(s *api.Stock) { s.Logs[8].Room = notes - 1 })
	add("a log without room", func(s *api.Stock) { s.Logs[4].Room = 0 })
	add("another Last", func(s *api.Stock) { s.Logs[4].Last = 1 })
	add("a Last ahead", func(s *api.Stock) { s.Logs[8].Last, s.Logs[8].List = 1, s.Logs[8].List[:1] })
	add("another version", func(s *api.Stock) { s.Cells[4].Ver = 1 })
	add("versions that do not rise", func(s *api.Stock) { s.Logs[6].List[3].Ver++ })
	add("nobody's change", func(s *api.Stock) { s.Logs[8].List[0].By = 0 })
	add("a ninth arm's change", func(s *api.Stock) { s.Logs[8].List[0].By = 9 })
	add("a change of nothing", func(s *api.Stock) { s.Logs[3].List[0].N = 0 })
	add("too many changes", func(s *api.Stock) {
		s.Logs[6].List = append([]api.Change{{Ver: 4, By: 1, N: 1}}, s.Logs[6].List...)
	})
}

func wrongTips(add func(string, func(*api.Stock))) {
	add("no state", func(s *api.Stock) { s.Tips[0].State = 0 })
	add("a state too many", func(s *api.Stock) { s.Tips[4].State = 4 })
	add("fresh in a hand", func(s *api.Stock) { s.Tips[2].By = 2 })
	add("spent in a hand", func(s *api.Stock) { s.Tips[3].By = 2 })
	add("held by nobody", func(s *api.Stock) { s.Tips[1].By = 0 })
	add("held by the fourth", func(s *api.Stock) { s.Tips[1].By = 4 })
	add("held by the eighth", func(s *api.Stock) { s.Tips[1].By = 8 })
	add("held by a ninth", func(s *api.Stock) { s.Tips[1].By = 9 })
	add("held by the least", func(s *api.Stock) { s.Tips[1].By = least })
	add("two side by side", func(s *api.Stock) { s.Tips[2] = api.Tip{State: 2, By: 1} })
	add("two apart", func(s *api.Stock) { s.Tips[4] = api.Tip{State: 2, By: 3} })
}

func wrongSums(add func(string, func(*api.Stock))) {
	add("another Start", func(s *api.Stock) { s.Start++ })
	add("another Start that adds up", func(s *api.Stock) { s.Start, s.In = s.Start+1, s.In-1 })
	add("a Start of 0 that adds up", func(s *api.Stock) { s.Start, s.In = 0, s.In+s.Start })
	add("In below 0", func(s *api.Stock) { s.In, s.Out = -1, s.Out-s.In-1 })
	add("Out below 0", func(s *api.Stock) { s.In, s.Out = s.In-s.Out-1, -1 })
	add("In too much", func(s *api.Stock) { s.In, s.Out = flow+1, s.Out+flow+1-s.In })
	add("Out too much", func(s *api.Stock) { s.In, s.Out = s.In+flow+1-s.Out, flow+1 })
	add("In far too much", func(s *api.Stock) { s.In, s.Out = most, s.Out+most-s.In })
	add("less than came in", func(s *api.Stock) { s.In++ })
	add("more than came in", func(s *api.Stock) { s.In-- })
	add("less than went out", func(s *api.Stock) { s.Out-- })
	add("more than went out", func(s *api.Stock) { s.Out++ })
	add("a volume more", func(s *api.Stock) { s.Cells[0].Vol++ })
	add("a volume less", func(s *api.Stock) { s.Cells[8].Vol-- })
	add("nothing at all", func(s *api.Stock) { s.In, s.Out = s.Out, s.In })
}

// P13.1

func TestNew(t *testing.T) {
	s, err := stock.New(example())
	want := api.Stock{Cells: []api.Cell{{Cap: 100, Vol: 40}, {Cap: 100}}, Logs: []api.Log{{Room: 8}, {Room: 8}}, Start: 40}
	if err != api.OK || !same(s, want) {
		t.Error(s, err)
	}
	s, err = stock.New(lab())
	if err != api.OK || s.Start != vast+147 || s.In != 0 || s.Out != 0 || !slices.Equal(s.Tips, slices.Repeat([]api.Tip{{State: api.TipFresh}}, 5)) {
		t.Error(s, err)
	}
	for id, c := range []api.Cell{{Cap: 100, Vol: 40}, {Cap: 100}, {Cap: 100, Vol: 100}, {Cap: 100, Vol: 7}, {Cap: 100}, {Cap: 100}, {Cap: 5000}, {Cap: 5000}, {Cap: vast, Vol: vast}} {
		if s.Cells[id] != c || !sameLog(s.Logs[id], api.Log{Room: notes}) {
			t.Error(id, s.Cells[id], s.Logs[id])
		}
	}
}

func TestNewOfAll(t *testing.T) {
	for i, d := range rightDecks() {
		if s, err := stock.New(d); err != api.OK || !same(s, open(d).stock()) || !stock.Right(d, s) {
			t.Error(i, s, err)
		}
	}
	for i, w := range wrongDecks() {
		if s, err := stock.New(w.d); err != w.err || !isNone(s) {
			t.Error(i, s, err)
		}
	}
}

func TestRight(t *testing.T) {
	for i, b := range books() {
		if s := b.stock(); !stock.Right(b.d, s) {
			t.Error(i, s)
		}
	}
	for what, s := range wrongStocks() {
		if stock.Right(lab(), s) {
			t.Error(what, s)
		}
	}
	for i, w := range wrongDecks() {
		if stock.Right(w.d, busy().stock()) || stock.Right(w.d, open(lab()).stock()) || stock.Right(w.d, api.Stock{}) {
			t.Error(i)
		}
	}
}

// TestRightOfOtherDecks has each deck's stock at first beside each other deck; each differs from all others.
func TestRightOfOtherDecks(t *testing.T) {
	for i, d := range rightDecks() {
		for k, other := range rightDecks() {
			if stock.Right(d, open(other).stock()) != (i == k) {
				t.Error(i, k)
			}
		}
	}
	// What no stock tells apart: where the lanes lie, and how many arms there are, as long as no hand is full.
	d := lab()
	d.Borders, d.Arms = rails(7), 1
	if !stock.Right(d, open(lab()).stock()) || stock.Right(d, busy().stock()) {
		t.Error("arms")
	}
	d.Arms = 8
	if !stock.Right(d, busy().stock()) {
		t.Error("more arms")
	}
	d.Plates[0].Start = append(d.Plates[0].Start, 0, 0)
	if !stock.Right(d, busy().stock()) {
		t.Error("noughts at first")
	}
	d.Plates[0].Start[4]++
	if stock.Right(d, busy().stock()) {
		t.Error("another start")
	}
}

// TestRightAtEnds has stocks at the ends of what may be.
func TestRightAtEnds(t *testing.T) {
	for i, do := range []func(s *api.Stock){
		func(s *api.Stock) { s.In, s.Out = flow, s.Out+flow-s.In },
		func(s *api.Stock) {
			*s = open(lab()).stock()
			s.Cells[8].Vol, s.In, s.Out = vast-5, flow-5, flow
		},
		func(s *api.Stock) {
			*s = open(lab()).stock()
			s.In, s.Out = flow, flow
		},
		func(s *api.Stock) { s.Cells[4].Ver, s.Logs[4].Last = last, last },
		func(s *api.Stock) { s.Logs[6].List = nil },
		func(s *api.Stock) { s.Logs[6].List = s.Logs[6].List[7:] },
		func(s *api.Stock) { s.Logs[6].List[0] = api.Change{Ver: 5, By: 8, N: -vast} },
		func(s *api.Stock) { s.Cells[2].Vol, s.Out = 0, s.Out+100 },
		func(s *api.Stock) { s.Cells[7].Vol, s.In = 5000, s.In+5000 },
		func(s *api.Stock) {
			s.Tips = []api.Tip{{State: 2, By: 2}, {State: 2, By: 1}, {State: 2, By: 3}, {State: 3}, {State: 3}}
		},
		func(s *api.Stock) { s.Tips = slices.Repeat([]api.Tip{{State: 3}}, 5) },
	} {
		s := busy().stock()
		do(&s)
		if !stock.Right(lab(), s) {
			t.Error(i, s)
		}
	}
}

// P13.2

func TestLook(t *testing.T) {
	b := busy()
	s := b.stock()
	for id := -20; id < 40; id++ {
		want, wantErr := api.Cell{}, api.ErrNone
		if id >= 0 && id < 9 {
			want, wantErr = s.Cells[id], api.OK
		}
		if c, err := stock.Look(b.d, s, id); c != want || err != wantErr {
			t.Error(id, c, err)
		}
	}
	for _, id := range []int{least, least + 9, 1 << 32, most} {
		if c, err := stock.Look(b.d, s, id); c != (api.Cell{}) || err != api.ErrNone {
			t.Error(id, c, err)
		}
	}
	if c, err := stock.Look(example(), open(example()).stock(), 0); c != (api.Cell{Cap: 100, Vol: 40}) || err != api.OK {
		t.Error(c, err)
	}
	bare := rightDecks()[6]
	if c, err := stock.Look(bare, api.Stock{}, 0); c != (api.Cell{}) || err != api.ErrNone {
		t.Error(c, err)
	}
}

func TestTotal(t *testing.T) {
	of := func(vols ...int) api.Stock {
		var s api.Stock
		for _, v := range vols {
			s.Cells = append(s.Cells, api.Cell{Vol: v, Cap: -5, Ver: -5})
		}
		s.Start, s.In, s.Out = 1000, 2000, 4000
		return s
	}
	for i, c := range []struct {
		s   api.Stock
		n   int
		err api.Errno
	}{
		{api.Stock{}, 0, api.OK}, {of(), 0, api.OK}, {of(0), 0, api.OK}, {of(5), 5, api.OK}, {of(-5, 3), -2, api.OK}, {of(most), most, api.OK}, {of(least), least, api.OK}, {of(most, least), -1, api.OK},
		{of(most, 1), 0, api.ErrOver}, {of(least, -1), 0, api.ErrOver}, {of(most, most), 0, api.ErrOver}, {of(most, 1, -1), most, api.OK}, {of(least, least, most, 1), least, api.OK}, {of(most, most, 2), 0, api.ErrOver}, {of(least, least), 0, api.ErrOver},
		{busy().stock(), vast + 147 + 12*10 + 66 - 7, api.OK}, {open(full()).stock(), 384 * vast, api.OK}, {open(example()).stock(), 40, api.OK},
	} {
		if n, err := stock.Total(c.s); n != c.n || err != c.err {
			t.Error(i, n, err)
		}
	}
}

func TestHand(t *testing.T) {
	b := busy()
	for by, want := range map[int]int{1: 10, 3: 9, 2: -1, 0: -1, -1: -1, 4: -1, 8: -1, 9: -1, least: -1, most: -1, 1<<32 + 1: -1} {
		if id, ok := stock.Hand(b.d, b.stock(), by); id != want || ok != (want >= 0) {
			t.Error(by, id, ok)
		}
	}
	// The tip at a rack's first place is the first id behind the wells; where there are no wells, it is 0.
	tipsOnly := rightDecks()[5]
	c := after(tipsOnly, op{take, 1, 0, 0, 0})
	if id, ok := stock.Hand(tipsOnly, c.stock(), 1); id != 0 || !ok {
		t.Error(id, ok)
	}
	for _, b := range books() {
		s := b.stock()
		for by := -1; by <= 9; by++ {
			want := -1
			if at := b.hand(by); at >= 0 {
				want = at + len(b.vols)
			}
			if id, ok := stock.Hand(b.d, s, by); id != want || ok != (want >= 0) {
				t.Error(by, id, ok)
			}
		}
	}
	// An arm that takes, drops, and takes another one.
	d, s := lab(), open(lab()).stock()
	for i, o := range []op{{take, 2, 13, 0, 0}, {drop, 2, 0, 0, 0}, {take, 2, 9, 0, 0}, {drop, 2, 0, 0, 0}} {
		var err api.Errno
		if s, err = o.do(d, s); err != api.OK {
			t.Error(i, err)
		}
		if id, ok := stock.Hand(d, s, 2); id != []int{13, -1, 9, -1}[i] || ok != (i%2 == 0) {
			t.Error(i, id, ok)
		}
	}
}

// TestNobodysStock has stocks that are not the deck's, and decks that are not right, at all calls; all else is wrong, too, or is not.
func TestNobodysStock(t *testing.T) {
	check := func(what string, d api.Deck, s api.Stock) {
		for _, by := range []int{0, 1, 2, 9} {
			if id, ok := stock.Hand(d, s, by); id != -1 || ok {
				t.Error("hand", what, by, id, ok)
			}
			for _, a := range []int{-1, 0, 3, 6, 11, 99} {
				if c, err := stock.Look(d, s, a); c != (api.Cell{}) || err != api.ErrStock {
					t.Error("look", what, a, c, err)
				}
				for kind := range kinds {
					for _, n := range []int{0, 1, most} {
						if got, err := (op{kind, by, a, 3, n}).do(d, s); err != api.ErrStock || !isNone(got) {
							t.Error(what, kind, by, a, n, err)
						}
					}
				}
			}
		}
	}
	for what, s := range wrongStocks() {
		check(what, lab(), s)
	}
	for _, w := range wrongDecks() {
		check("a wrong deck", w.d, busy().stock())
	}
	check("another deck", example(), busy().stock())
	check("no deck", api.Deck{}, api.Stock{})
}

// P13.3

func TestExample(t *testing.T) {
	d := example()
	s, err := stock.Move(d, open(d).stock(), 2, 0, 1, 15)
	want := api.Stock{
		Cells: []api.Cell{{Cap: 100, Vol: 25, Ver: 1}, {Cap: 100, Vol: 15, Ver: 1}},
		Logs:  []api.Log{{Room: 8, Last: 1, List: []api.Change{{Ver: 1, By: 2, N: -15}}}, {Room: 8, Last: 1, List: []api.Change{{Ver: 1, By: 2, N: 15}}}},
		Start: 40,
	}
	if err != api.OK || !same(s, want) {
		t.Error(s, err)
	}
	if n, err := stock.Total(s); n != 40 || err != api.OK {
		t.Error(n, err)
	}
	s, err = stock.Fill(d, s, 1, 1, 85)
	want.Cells[1] = api.Cell{Cap: 100, Vol: 100, Ver: 2}
	want.Logs[1] = api.Log{Room: 8, Last: 2, List: []api.Change{{Ver: 1, By: 2, N: 15}, {Ver: 2, By: 1, N: 85}}}
	want.In = 85
	if err != api.OK || !same(s, want) {
		t.Error(s, err)
	}
	s, err = stock.Waste(d, s, 2, 0, 25)
	want.Cells[0] = api.Cell{Cap: 100, Ver: 2}
	want.Logs[0] = api.Log{Room: 8, Last: 2, List: []api.Change{{Ver: 1, By: 2, N: -15}, {Ver: 2, By: 2, N: -25}}}
	want.Out = 25
	if err != api.OK || !same(s, want) {
		t.Error(s, err)
	}
}

func TestErrors(t *testing.T) {
	b, e := busy(), ending()
	for i, c := range []struct {
		b   *book
		op  op
		err api.Errno
	}{
		// Arms: the deck has three.
		{b, op{fill, 0, 1, 0, 1}, api.ErrArg}, {b, op{fill, 1, 1, 0, 1}, api.OK}, {b, op{fill, 3, 1, 0, 1}, api.OK}, {b, op{fill, 4, 1, 0, 1}, api.ErrArg}, {b, op{fill, -1, 1, 0, 1}, api.ErrArg}, {b, op{fill, 4, 99, 0, 0}, api.ErrArg}, {b, op{waste, 4, -1, 0, 1}, api.ErrArg}, {b, op{waste, 0, 1, 0, 1}, api.ErrArg}, {b, op{move, 0, 0, 1, 1}, api.ErrArg}, {b, op{move, 4, 0, 99, 1}, api.ErrArg}, {b, op{take, 0, 11, 0, 0}, api.ErrArg}, {b, op{take, 4, 0, 0, 0}, api.ErrArg}, {b, op{take, 9, 11, 0, 0}, api.ErrArg}, {b, op{drop, 0, 0, 0, 0}, api.ErrArg}, {b, op{drop, 4, 0, 0, 0}, api.ErrArg},
		// Ids: 0 to 8 are wells, 9 to 13 tips, 14 to 16 lanes.
		{b, op{fill, 1, -1, 0, 1}, api.ErrNone}, {b, op{fill, 1, 9, 0, 1}, api.ErrNone}, {b, op{fill, 1, 16, 0, 1}, api.ErrNone}, {b, op{fill, 1, 17, 0, 0}, api.ErrNone}, {b, op{fill, 1, least, 0, 1}, api.ErrNone}, {b, op{waste, 1, 9, 0, 1}, api.ErrNone}, {b, op{waste, 1, -1, 0, 0}, api.ErrNone}, {b, op{waste, 1, most, 0, 1}, api.ErrNone}, {b, op{waste, 1, 8, 0, 1}, api.OK}, {b, op{move, 1, 9, 0, 1}, api.ErrNone}, {b, op{move, 1, 0, 9, 1}, api.ErrNone}, {b, op{move, 1, 0, -1, 0}, api.ErrNone}, {b, op{move, 1, 9, 9, 0}, api.ErrNone}, {b, op{move, 1, 99, 99, 1}, api.ErrNone}, {b, op{move, 1, 2, 14, 101}, api.ErrNone}, {b, op{take, 2, 8, 0, 0}, api.ErrNone}, {b, op{take, 2, 14, 0, 0}, api.ErrNone}, {b, op{take, 1, 0, 0, 0}, api.ErrNone}, {b, op{take, 2, -1, 0, 0}, api.ErrNone}, {b, op{take, 2, least + 2, 0, 0}, api.ErrNone}, {b, op{take, 2, most, 0, 0}, api.ErrNone},
		// Amounts.
		{b, op{fill, 1, 2, 0, 0}, api.ErrArg}, {b, op{fill, 1, 2, 0, -1}, api.ErrArg}, {b, op{fill, 1, 2, 0, least}, api.ErrArg}, {b, op{fill, 1, 2, 0, 1}, api.ErrRoom}, {b, op{fill, 1, 4, 0, 100}, api.OK}, {b, op{fill, 1, 4, 0, 101}, api.ErrRoom}, {b, op{fill, 1, 4, 0, most}, api.ErrRoom}, {b, op{waste, 1, 2, 0, 100}, api.OK}, {b, op{waste, 1, 2, 0, 101}, api.ErrUnder}, {b, op{waste, 1, 4, 0, 1}, api.ErrUnder}, {b, op{waste, 1, 4, 0, 0}, api.ErrArg}, {b, op{waste, 1, 4, 0, -1}, api.ErrArg}, {b, op{waste, 1, 4, 0, least}, api.ErrArg}, {b, op{waste, 1, 4, 0, most}, api.ErrUnder},
		// Moves.
		{b, op{move, 1, 0, 0, 1}, api.ErrArg}, {b, op{move, 1, 2, 2, 0}, api.ErrArg}, {b, op{move, 1, 4, 4, 1}, api.ErrArg}, {b, op{move, 1, 0, 1, 0}, api.ErrArg}, {b, op{move, 1, 4, 2, -1}, api.ErrArg}, {b, op{move, 1, 4, 5, 1}, api.ErrUnder}, {b, op{move, 1, 4, 2, 1}, api.ErrUnder}, {b, op{move, 1, 0, 2, 1}, api.ErrRoom}, {b, op{move, 1, 0, 2, 99}, api.ErrUnder}, {b, op{move, 1, 2, 4, 100}, api.OK}, {b, op{move, 1, 2, 4, 101}, api.ErrUnder}, {b, op{move, 1, 8, 7, 5000}, api.OK}, {b, op{move, 1, 8, 7, 5001}, api.ErrRoom}, {b, op{move, 3, 8, 7, vast}, api.ErrRoom}, {b, op{move, 3, 8, 7, vast + 1}, api.ErrUnder},
		// Tips: 1 holds 10, 3 holds 9; 12 is spent.
		{b, op{take, 2, 11, 0, 0}, api.OK}, {b, op{take, 2, 13, 0, 0}, api.OK}, {b, op{take, 2, 10, 0, 0}, api.ErrFresh}, {b, op{take, 2, 9, 0, 0}, api.ErrFresh}, {b, op{take, 2, 12, 0, 0}, api.ErrFresh}, {b, op{take, 1, 11, 0, 0}, api.ErrHand}, {b, op{take, 1, 10, 0, 0}, api.ErrHand}, {b, op{take, 3, 10, 0, 0}, api.ErrHand}, {b, op{take, 3, 12, 0, 0}, api.ErrHand}, {b, op{drop, 1, 0, 0, 0}, api.OK}, {b, op{drop, 3, 0, 0, 0}, api.OK}, {b, op{drop, 2, 0, 0, 0}, api.ErrHand},
		// Versions that end: 1 and 7 have the last one, 0 and 6 the one ahead of it.
		{e, op{fill, 1, 1, 0, 1}, api.ErrVer}, {e, op{fill, 1, 1, 0, 51}, api.ErrVer}, {e, op{fill, 1, 1, 0, 0}, api.ErrArg}, {e, op{waste, 1, 1, 0, 1}, api.ErrVer}, {e, op{waste, 1, 7, 0, 1}, api.ErrVer}, {e, op{fill, 1, 0, 0, 1}, api.OK}, {e, op{waste, 1, 6, 0, 1}, api.OK}, {e, op{move, 1, 0, 6, 1}, api.OK}, {e, op{move, 1, 1, 0, 1}, api.ErrVer}, {e, op{move, 1, 0, 1, 1}, api.ErrVer}, {e, op{move, 1, 0, 1, 100}, api.ErrUnder}, {e, op{move, 1, 7, 1, 1}, api.ErrVer},
		// As much as may come in or go out: 4 more, 9 more.
		{e, op{fill, 1, 4, 0, 4}, api.OK}, {e, op{fill, 1, 4, 0, 5}, api.ErrOver}, {e, op{fill, 1, 4, 0, 100}, api.ErrOver}, {e, op{fill, 1, 4, 0, 101}, api.ErrRoom}, {e, op{fill, 1, 1, 0, 5}, api.ErrVer}, {e, op{waste, 1, 8, 0, 9}, api.OK}, {e, op{waste, 1, 8, 0, 10}, api.ErrOver}, {e, op{waste, 1, 8, 0, vast}, api.ErrOver}, {e, op{waste, 1, 8, 0, vast + 1}, api.ErrUnder}, {e, op{waste, 1, 1, 0, 10}, api.ErrVer}, {e, op{move, 1, 8, 4, 100}, api.OK},
	} {
		was := c.b.stock()
		s, err := c.op.do(c.b.d, was)
		if err != c.err || (err == api.OK) == isNone(s) || !same(was, c.b.stock()) {
			t.Error(i, c.op, err)
		}
	}
}

// TestOfAll has all that may be wrong beside each other, and holds the answers against the book's.
func TestOfAll(t *testing.T) {
	ids := []int{least, -1, 0, 1, 2, 3, 4, 6, 7, 8, 9, 10, 11, 12, 13, 14, 17, most}
	amounts := []int{least, -1, 0, 1, 4, 5, 9, 10, 51, 100, 101, 5000, vast, most}
	for at, b := range []*book{busy(), ending(), open(lab()), open(rightDecks()[5])} {
		was := b.stock()
		check := func(o op) {
			c := b.copied()
			want := o.must(c)
			s, err := o.do(b.d, was)
			if err != want {
				t.Fatal(at, o, err, want)
			}
			if err == api.OK && !same(s, c.stock()) || err != api.OK && !isNone(s) {
				t.Fatal(at, o, s)
			}
		}
		for _, by := range []int{least, -1, 0, 1, 2, 3, 4, 8, 9, most} {
			check(op{kind: drop, by: by})
			for _, a := range ids {
				check(op{kind: take, by: by, a: a})
				for _, n := range amounts {
					check(op{fill, by, a, 0, n})
					check(op{waste, by, a, 0, n})
				}
				if by > 2 { // two arms and two that are none do for the moves
					continue
				}
				for _, to := range ids {
					for _, n := range amounts {
						check(op{move, by, a, to, n})
					}
				}
			}
		}
		if !same(was, b.stock()) {
			t.Error("changed", at)
		}
	}
}

// TestFlowEnds fills up to MaxFlow and not beyond, and likewise wastes.
func TestFlowEnds(t *testing.T) {
	b := ending()
	d, s := b.d, b.stock()
	for i, o := range []op{{fill, 1, 4, 0, 3}, {fill, 1, 5, 0, 1}, {waste, 2, 8, 0, 8}, {waste, 3, 2, 0, 0}, {waste, 3, 8, 0, 1}} {
		next, err := o.do(d, s)
		if want := o.must(b); err != want || err == api.OK && !same(next, b.stock()) {
			t.Error(i, err)
		}
		if err == api.OK {
			s = next
		}
	}
	if s.In != flow || s.Out != flow || !stock.Right(d, s) {
		t.Error(s.In, s.Out)
	}
	for i, o := range []op{{fill, 1, 4, 0, 1}, {waste, 1, 8, 0, 1}} {
		if next, err := o.do(d, s); err != api.ErrOver || !isNone(next) {
			t.Error(i, err)
		}
	}
	if s, err := stock.Move(d, s, 1, 8, 4, 1); err != api.OK || s.In != flow || s.Out != flow {
		t.Error(err)
	}
}

// TestNotes changes a well more often than its log keeps, and its neighbour once.
func TestNotes(t *testing.T) {
	d := example()
	s, err := stock.Fill(d, open(d).stock(), 1, 1, 7)
	for i := range 20 {
		if err != api.OK {
			t.Fatal(i, err)
		}
		if i%2 == 0 {
			s, err = stock.Fill(d, s, 1, 0, 1+i)
		} else {
			s, err = stock.Waste(d, s, 2, 0, i)
		}
		l := s.Logs[0]
		if l.Room != notes || l.Last != i+1 || s.Cells[0].Ver != i+1 || len(l.List) != min(i+1, notes) {
			t.Fatal(i, l, s.Cells[0])
		}
		n := 1 + i
		if i%2 == 1 {
			n = -i
		}
		if c := l.List[len(l.List)-1]; c != (api.Change{Ver: i + 1, By: 1 + i%2, N: n}) {
			t.Fatal(i, c)
		}
		if l.List[0].Ver != max(1, i-6) {
			t.Fatal(i, l.List[0])
		}
	}
	if s.Cells[0].Vol != 40 || !sameLog(s.Logs[1], api.Log{Room: notes, Last: 1, List: []api.Change{{Ver: 1, By: 1, N: 7}}}) {
		t.Error(s)
	}
}

// R3

// What lies in the room behind a list's end.
var (
	oddCell   = api.Cell{Cap: -7, Vol: -7, Ver: -7}
	oddChange = api.Change{Ver: -7, By: -7, N: -7}
	oddLog    = api.Log{Room: -7, Last: -7}
	oddTip    = api.Tip{State: -7, By: -7}
)

// roomy is a list with room behind its end, and something in it.
func roomy[T any](l []T, odd T) []T { return append(slices.Clone(l), odd, odd)[:len(l)] }

// kept tells whether a roomy list is as it was, with the room behind it.
func kept[T comparable](l, was []T, odd T) bool {
	return slices.Equal(l[:len(was)+2], append(slices.Clone(was), odd, odd))
}

// roomyStock is a book's stock with room behind all lists.
func roomyStock(b *book) api.Stock {
	s := b.stock()
	s.Cells, s.Logs, s.Tips = roomy(s.Cells, oddCell), roomy(s.Logs, oddLog), roomy(s.Tips, oddTip)
	for i, l := range s.Logs {
		s.Logs[i].List = roomy(l.List, oddChange)
	}
	return s
}

// keptStock tells whether a roomy stock is as it was.
func keptStock(s api.Stock, b *book) bool {
	was := b.stock()
	for i, l := range s.Logs {
		if !kept(l.List, was.Logs[i].List, oddChange) {
			return false
		}
	}
	logs := slices.EqualFunc(s.Logs[:len(was.Logs)+2], append(was.Logs, oddLog, oddLog), sameLog)
	return same(s, b.stock()) && logs && kept(s.Cells, was.Cells, oddCell) && kept(s.Tips, was.Tips, oddTip)
}

// roomyDeck is a book's deck with room behind the lists of what its wells hold at first.
func roomyDeck(b *book) api.Deck {
	d := b.d
	d.Borders, d.Racks, d.Plates = roomy(d.Borders, -7), roomy(d.Racks, api.Rack{}), slices.Clone(d.Plates)
	for i, p := range d.Plates {
		d.Plates[i].Start = roomy(p.Start, -7)
	}
	return d
}

// keptDeck tells whether a roomy deck is as it was.
func keptDeck(d api.Deck, b *book) bool {
	for i, p := range d.Plates {
		if !kept(p.Start, b.d.Plates[i].Start, -7) {
			return false
		}
	}
	return kept(d.Borders, b.d.Borders, -7) && kept(d.Racks, b.d.Racks, api.Rack{}) && stock.Right(d, b.stock())
}

// wipe writes into all of a stock's memory, and into all the room behind the lists' ends.
func wipe(s api.Stock) {
	for i := range s.Logs {
		list := s.Logs[i].List[:cap(s.Logs[i].List)]
		for k := range list {
			list[k] = api.Change{Ver: 99, By: 99, N: 99}
		}
	}
	for i := range s.Cells[:cap(s.Cells)] {
		s.Cells[:cap(s.Cells)][i] = api.Cell{Cap: 99, Vol: 99, Ver: 99}
	}
	for i := range s.Logs[:cap(s.Logs)] {
		s.Logs[:cap(s.Logs)][i] = api.Log{Room: 99}
	}
	for i := range s.Tips[:cap(s.Tips)] {
		s.Tips[:cap(s.Tips)][i] = api.Tip{State: 99, By: 99}
	}
}

// samples are an op of each kind that is done at busy, ending and lab, and some that are refused.
func samples() []op {
	return []op{{fill, 1, 4, 0, 1}, {waste, 1, 8, 0, 1}, {move, 2, 0, 4, 1}, {move, 2, 8, 6, 2}, {take, 2, 11, 0, 0}, {take, 2, 13, 0, 0}, {drop, 1, 0, 0, 0}, {drop, 3, 0, 0, 0}, {move, 1, 0, 2, 90}, {move, 2, 3, 2, 1}, {fill, 1, 4, 0, 101}, {take, 1, 12, 0, 0}}
}

func TestKeepsArguments(t *testing.T) {
	for at, b := range []*book{busy(), ending(), open(lab())} {
		for i, o := range samples() {
			d, s := roomyDeck(b), roomyStock(b)
			next, _ := o.do(d, s)
			wipe(next)
			stock.Look(d, s, 0)
			stock.Total(s)
			stock.Hand(d, s, 1)
			stock.Right(d, s)
			first, _ := stock.New(d)
			wipe(first)
			if !keptStock(s, b) || !keptDeck(d, b) {
				t.Error(at, i, o)
			}
		}
	}
}

// TestKeepsAnswers writes into what was handed in, and behind each log of what is answered: nothing else is told by that.
func TestKeepsAnswers(t *testing.T) {
	for at, b := range []*book{busy(), ending(), open(lab())} {
		for i, o := range samples() {
			d, s, c := roomyDeck(b), roomyStock(b), b.copied()
			want := o.must(c)
			next, err := o.do(d, s)
			first, _ := stock.New(d)
			wipe(s)
			for k := range d.Plates {
				clear(d.Plates[k].Start)
			}
			if err != want || err == api.OK && !same(next, c.stock()) || !same(first, open(b.d).stock()) {
				t.Error(at, i, o, err)
			}
			for k := range next.Logs {
				next.Logs[k].List = append(next.Logs[k].List, oddChange)
			}
			for k, l := range next.Logs {
				if !slices.Equal(l.List, append(c.stock().Logs[k].List, oddChange)) {
					t.Error("shared", at, i, o, k)
				}
			}
		}
	}
}

// P13.4

// anyOp is something that an arm may do, most of it sensible.
func anyOp(r *rand.Rand, b *book) op {
	id := func(n int) int { return r.Intn(n+2) - 1 }
	o := op{r.Intn(kinds), 1 + r.Intn(b.d.Arms), id(len(b.vols)), id(len(b.vols)), r.Intn(60)}
	switch {
	case o.kind == take:
		o.a = len(b.vols) + id(len(b.tips))
	case r.Intn(8) == 0:
		o.n = []int{-1, vast, 5000, most}[r.Intn(4)]
	}
	if r.Intn(16) == 0 {
		o.by = r.Intn(11) - 1
	}
	return o
}

// flows is what the book's wells hold together by what came and went, with as many digits as that needs.
func (b *book) flows() *big.Int {
	n := big.NewInt(int64(b.start))
	n.Add(n, big.NewInt(int64(b.in)))
	return n.Sub(n, big.NewInt(int64(b.out)))
}

func TestWhatFollows(t *testing.T) {
	r := rand.New(rand.NewSource(1))
	for at, b := range books() {
		if at == 4 { // the greatest deck is slow, and shows nothing that the others do not
			continue
		}
		s, done := b.stock(), 0
		for i := range 3000 {
			o := anyOp(r, b)
			want := o.must(b)
			next, err := o.do(b.d, s)
			if err != want {
				t.Fatal(at, i, o, err, want)
			}
			if err != api.OK {
				if !isNone(next) || !same(s, b.stock()) {
					t.Fatal("refused", at, i, o)
				}
				continue
			}
			done++
			s = next
			total, over := stock.Total(s)
			if !same(s, b.stock()) || !stock.Right(b.d, s) || over != api.OK || b.flows().Cmp(big.NewInt(int64(total))) != 0 || total != s.Start+s.In-s.Out {
				t.Fatal(at, i, o, s)
			}
		}
		if len(b.vols) > 3 && done < 50 {
			t.Error("too little is done", at, done)
		}
	}
}

// TestGreatest has a few ops on the greatest deck.
func TestGreatest(t *testing.T) {
	b := open(full())
	s := b.stock()
	for i, o := range []op{{fill, 8, 383, 0, 1}, {waste, 8, 383, 0, vast}, {fill, 1, 383, 0, vast - 1}, {move, 2, 0, 383, 1}, {move, 2, 0, 383, 1}, {take, 8, 767, 0, 0}, {take, 8, 768, 0, 0}, {take, 7, 384, 0, 0}, {take, 6, 383, 0, 0}, {take, 9, 385, 0, 0}, {drop, 8, 0, 0, 0}, {drop, 8, 0, 0, 0}, {fill, 1, 384, 0, 1}} {
		want := o.must(b)
		next, err := o.do(b.d, s)
		if err != want || err == api.OK && !same(next, b.stock()) {
			t.Error(i, o, err)
		}
		if err == api.OK {
			s = next
		}
	}
}
