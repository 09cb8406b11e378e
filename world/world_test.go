package world_test

import (
	"fmt"
	"math"
	"math/rand"
	"slices"
	"testing"

	"deckhand/api"
	"deckhand/hist"
	"deckhand/machine"
	"deckhand/model"
	"deckhand/mutex"
	"deckhand/want"
	"deckhand/world"
)

const (
	most  = 1<<63 - 1
	least = -1 << 63
	flow  = 1 << 60 // the last step that there may be
)

// ids is a list of numbers, of a short form.
func ids(l ...int) []int { return l }

// bits is the bits of so many nanolitres as microlitres.
func bits(n int) uint64 { return math.Float64bits(float64(n) / 1000) }

// The requests of each kind, in a short form; volumes in nanolitres.
func reserve(l ...int) api.Req { return api.Req{Kind: 1, Ids: l} }
func release(l ...int) api.Req { return api.Req{Kind: 2, Ids: l} }
func free() api.Req            { return api.Req{Kind: 3} }
func move(a, b, n int) api.Req { return api.Req{Kind: 4, A: a, B: b, Vol: bits(n)} }
func fill(a, n int) api.Req    { return api.Req{Kind: 5, A: a, Vol: bits(n)} }
func waste(a, n int) api.Req   { return api.Req{Kind: 6, A: a, Vol: bits(n)} }
func take(a int) api.Req       { return api.Req{Kind: 7, A: a} }
func drop() api.Req            { return api.Req{Kind: 8} }
func ask(a int) api.Req        { return api.Req{Kind: 9, A: a} }
func since(a, ver int) api.Req { return api.Req{Kind: 10, A: a, Ver: ver} }

// reqs is a list of requests, todos one of such lists, of a short form.
func reqs(l ...api.Req) []api.Req      { return l }
func todos(l ...[]api.Req) [][]api.Req { return l }

// same tells whether two things are; what is printed tells nil and empty lists not apart.
func same(a, b any) bool { return fmt.Sprint(a) == fmt.Sprint(b) }

// rails is n lanes that are 9 wide.
func rails(n int) []float64 {
	l := make([]float64, n+1)
	for i := range l {
		l[i] = float64(9 * i)
	}
	return l
}

// lab is a deck of three arms and 65 ids. The wells 0 and 3 cover the lanes 60 and 61, 1 and 4 the lanes 61 and 62, 2 and 5 the lanes 62 and 63; 6 to 53 cover 64, 54 covers 63. The tip 55 covers 60, 56 covers 61, 57 to 59 cover 61 and 62. 60 to 64 are the lanes.
func lab() api.Deck {
	return api.Deck{
		Borders: rails(5),
		Plates:  []api.Plate{{Rows: 2, Cols: 3, X: 4.5, Pitch: 9, Reach: 4.5, Cap: 100, Start: ids(40, 0, 100, 7)}, {Rows: 4, Cols: 12, X: 37, Pitch: 0.5, Cap: 5000}, {Rows: 1, Cols: 1, X: 31, Cap: 90, Start: ids(80)}},
		Racks:   []api.Rack{{Rows: 1, Cols: 2, X: 1, Pitch: 16}, {Rows: 3, Cols: 1, X: 18, Reach: 3}},
		Arms:    3,
	}
}

// small is a deck of two wells (0, 1), a tip (2), two lanes (3, 4) and two arms; the wells cover 3, the tip 4.
func small() api.Deck {
	return api.Deck{Borders: rails(2), Plates: []api.Plate{{Rows: 1, Cols: 2, X: 1, Pitch: 1, Cap: 100, Start: ids(40)}}, Racks: []api.Rack{{Rows: 1, Cols: 1, X: 10}}, Arms: 2}
}

// arms is small with so many arms.
func arms(n int) api.Deck {
	d := small()
	d.Arms = n
	return d
}

// at is a deck's world behind steps of some arms, one after the other.
func at(d api.Deck, todo [][]api.Req, who ...int) api.World {
	w, err := world.New(d, todo)
	if err != api.OK {
		panic("a world of the test is refused")
	}
	return on(w, who...)
}

// on is a world behind further steps.
func on(w api.World, who ...int) api.World {
	for _, a := range who {
		next, ok := world.Step(w, a)
		if !ok {
			panic("a step of the test is none")
		}
		w = next
	}
	return w
}

// times is an arm, so many times.
func times(n, who int) []int { return slices.Repeat(ids(who), n) }

// jobs is what the arms of lab do in the midst of work: some of it clashes.
func jobs() [][]api.Req {
	return todos(reqs(reserve(0, 60, 55), take(55), reserve(61), fill(0, 5), free()), reqs(reserve(60, 3), ask(0), release(3), api.Req{Kind: 99}), reqs(since(0, 0), drop(), reserve(61, 62, 57), take(57)))
}

// onTheWay is worlds of lab on the way from the first step to the last one, in which sessions stand in all phases.
func onTheWay() []api.World {
	r := rand.New(rand.NewSource(7))
	var l []api.World
	for range 2 {
		w := at(lab(), jobs())
		for i := 0; !world.Over(w); i++ {
			if i%3 == 0 {
				l = append(l, w)
			}
			may := world.Runnable(w)
			w = on(w, may[r.Intn(len(may))])
		}
		l = append(l, w)
	}
	return l
}

// P21.1

// refused are decks like lab that model.New refuses.
func refused() []api.Deck {
	l := []api.Deck{{}}
	add := func(do func(d *api.Deck)) {
		d := lab()
		do(&d)
		l = append(l, d)
	}
	add(func(d *api.Deck) { d.Borders = d.Borders[:1] })
	add(func(d *api.Deck) { d.Borders = rails(25) })
	add(func(d *api.Deck) { d.Borders[2] = math.NaN() })
	add(func(d *api.Deck) { d.Borders[4] = 27 })
	add(func(d *api.Deck) { d.Arms = 0 })
	add(func(d *api.Deck) { d.Arms = -1 })
	add(func(d *api.Deck) { d.Arms = 9 })
	add(func(d *api.Deck) { d.Plates = slices.Repeat(d.Plates, 2) })
	add(func(d *api.Deck) { d.Plates[1].Cap = 0 })
	add(func(d *api.Deck) { d.Racks[1].Rows = 0 })
	add(func(d *api.Deck) { d.Plates[1].Reach = -1 })
	add(func(d *api.Deck) { d.Racks[1].X = 99 })
	return l
}

func TestNewRefused(t *testing.T) {
	many := slices.Repeat(reqs(ask(0)), 4097)
	for i, d := range refused() {
		_, right := model.New(d)
		// Whatever the lists are: the deck's error comes first.
		for _, todo := range [][][]api.Req{nil, jobs(), todos(nil, nil, nil, nil), todos(many), make([][]api.Req, 10), todos(many, many, many, many)} {
			if w, err := world.New(d, todo); right == api.OK || err != right || !same(w, api.World{}) {
				t.Error(i, len(todo), err, "for", right)
			}
		}
	}
	bad := func(d api.Deck, todo [][]api.Req, right api.Errno) {
		t.Helper()
		if w, err := world.New(d, todo); err != right || !same(w, api.World{}) {
			t.Error(len(todo), err, "for", right)
		}
	}
	for n := 1; n <= 8; n++ {
		bad(arms(n), make([][]api.Req, n+1), api.ErrArg)
		bad(arms(n), slices.Repeat(todos(reqs(ask(0))), n+1), api.ErrArg)
		bad(arms(n), make([][]api.Req, n+9), api.ErrArg)
		bad(arms(n), todos(many), api.ErrLong)
		// Too many lists come ahead of too many requests.
		bad(arms(n), slices.Repeat(todos(many), n+1), api.ErrArg)
		bad(arms(n), slices.Concat(todos(many), make([][]api.Req, n)), api.ErrArg)
	}
	bad(arms(2), todos(nil, many), api.ErrLong)
	bad(arms(2), todos(many[:4096], many[:1]), api.ErrLong)
	bad(arms(2), todos(many[:1], many[:4096]), api.ErrLong)
	bad(arms(2), todos(many[:2048], many[:2049]), api.ErrLong)
	bad(arms(8), slices.Repeat(todos(many[:513]), 8), api.ErrLong)
	bad(arms(8), todos(many[:4090], many[:1], many[:1], many[:1], many[:1], many[:1], many[:1], many[:1]), api.ErrLong)
	bad(arms(2), todos(slices.Repeat(reqs(api.Req{Kind: 99}), 4097)), api.ErrLong)
}

func TestNew(t *testing.T) {
	many := slices.Repeat(reqs(ask(0), api.Req{Kind: -4}), 2048)
	for i, c := range []struct {
		d    api.Deck
		todo [][]api.Req
	}{
		{lab(), nil}, {lab(), todos()}, {lab(), jobs()}, {lab(), jobs()[:2]}, {lab(), jobs()[:1]}, {lab(), todos(nil)}, {lab(), todos(nil, nil, nil)}, {lab(), todos(reqs(), nil, reqs(free()))}, {lab(), todos(nil, reqs(free()))},
		{arms(1), nil}, {arms(1), todos(many)}, {arms(8), todos(nil, nil, nil, nil, nil, nil, nil, many)}, {arms(8), slices.Repeat(todos(many[:512]), 8)}, {arms(2), todos(many[:4095], many[:1])}, {arms(2), todos(many[:1], many[:4095])}, {arms(8), make([][]api.Req, 8)}, {arms(3), todos(many[:1000], many[:1001], many[:2095])},
	} {
		m, _ := model.New(c.d)
		right := api.World{Model: m, Locks: make([]int, len(m.Owners))}
		for who := 1; who <= c.d.Arms; who++ {
			s := api.Mach{Who: who, Phase: api.PhaseEnd}
			if who <= len(c.todo) && len(c.todo[who-1]) > 0 {
				s.Phase, s.Todo = api.PhaseRest, c.todo[who-1]
			}
			right.Machs = append(right.Machs, s)
		}
		w, err := world.New(c.d, c.todo)
		if err != api.OK || !same(w, right) || !world.Right(w) || !rightBook(w) {
			t.Error(i, err)
		}
	}
}

// change is what may be done to a world so that it is not right any more; where it does nothing to a world, it tells so.
type change struct {
	what string
	do   func(w *api.World) bool
}

// put is a list with another value at a place, in new memory.
func put[T any](l []T, i int, v T) []T {
	l = slices.Clone(l)
	l[i] = v
	return l
}

// always is a change that does something to each world.
func always(what string, do func(w *api.World)) change {
	return change{what, func(w *api.World) bool { do(w); return true }}
}

// changesOfModel make the model wrong, or another deck's.
func changesOfModel() []change {
	l := []change{
		always("no model", func(w *api.World) { w.Model = api.Model{} }),
		always("no deck", func(w *api.World) { w.Model.Deck = api.Deck{} }),
		always("no stock", func(w *api.World) { w.Model.Stock = api.Stock{} }),
		always("no owners", func(w *api.World) { w.Model.Owners = nil }),
		always("an owner too few", func(w *api.World) { w.Model.Owners = w.Model.Owners[:64] }),
		always("an owner too many", func(w *api.World) { w.Model.Owners = append(slices.Clone(w.Model.Owners), 0) }),
		always("an owner below 0", func(w *api.World) { w.Model.Owners = put(w.Model.Owners, 9, -1) }),
		always("an owner that is no arm", func(w *api.World) { w.Model.Owners = put(w.Model.Owners, 9, 4) }),
		always("a volume less", func(w *api.World) { w.Model.Stock.In++ }),
		always("a tip of nobody", func(w *api.World) { w.Model.Stock.Tips = put(w.Model.Stock.Tips, 4, api.Tip{State: 2}) }),
		always("fewer arms", func(w *api.World) { w.Model.Deck.Arms = 2 }),
		always("more arms", func(w *api.World) { w.Model.Deck.Arms = 4 }),
		always("no arms", func(w *api.World) { w.Model.Deck.Arms, w.Machs = 0, nil }),
		always("another deck's model", func(w *api.World) { w.Model, _ = model.New(arms(3)) }),
	}
	for i, d := range refused() {
		l = append(l, always(fmt.Sprint("a deck that is refused ", i), func(w *api.World) { w.Model.Deck = d }))
	}
	return l
}

// changesOfMachs make the list of sessions wrong, or one of them.
func changesOfMachs() []change {
	l := []change{
		always("no sessions", func(w *api.World) { w.Machs = nil }),
		always("the last session lacks", func(w *api.World) { w.Machs = w.Machs[:2] }),
		always("the first session lacks", func(w *api.World) { w.Machs = w.Machs[1:] }),
		always("a session in the middle lacks", func(w *api.World) { w.Machs = ([]api.Mach{w.Machs[0], w.Machs[2]}) }),
		always("a session too many", func(w *api.World) { w.Machs = append(slices.Clone(w.Machs), machine.New(4, nil)) }),
		always("a session twice, one too many", func(w *api.World) { w.Machs = append(slices.Clone(w.Machs), w.Machs[2]) }),
		always("a session of nobody too many", func(w *api.World) { w.Machs = append(slices.Clone(w.Machs), api.Mach{Phase: api.PhaseEnd}) }),
	}
	for i := range 3 {
		next := (i + 1) % 3
		l = append(l, always(fmt.Sprint("two in the wrong order ", i), func(w *api.World) { w.Machs = put(put(w.Machs, i, w.Machs[next]), next, w.Machs[i]) }))
		l = append(l, always(fmt.Sprint("one instead of another one ", i), func(w *api.World) { w.Machs = put(w.Machs, i, w.Machs[next]) }))
		one := func(what string, do func(c *api.Mach)) {
			l = append(l, always(fmt.Sprint(what, " ", i), func(w *api.World) {
				w.Machs = slices.Clone(w.Machs)
				do(&w.Machs[i])
			}))
		}
		one("an empty session", func(c *api.Mach) { *c = api.Mach{} })
		for _, who := range []int{0, -1, 4, 9, 1 + next, most, least} {
			one(fmt.Sprint("who is ", who), func(c *api.Mach) { c.Who = who })
		}
		for _, phase := range []int{-1, 7, most, least} {
			one(fmt.Sprint("the phase ", phase), func(c *api.Mach) { c.Phase = phase })
		}
		one("one request more", func(c *api.Mach) { c.Num++ })
		one("one request less", func(c *api.Mach) { c.Num-- })
		one("a number below 0", func(c *api.Mach) { c.Num = -1 })
		one("the greatest number", func(c *api.Mach) { c.Num = most })
		one("the least number", func(c *api.Mach) { c.Num = least })
		one("a number that goes round", func(c *api.Mach) { c.Num += 1 << 62 })
		one("ids that fall", func(c *api.Mach) { c.Ids = append(slices.Clone(c.Ids), 9, 8) })
		one("an id too great", func(c *api.Mach) { c.Ids = append(slices.Clone(c.Ids), 65) })
		one("At below 0", func(c *api.Mach) { c.At = -1 })
		one("one more held", func(c *api.Mach) { c.At++ })
		one("At beyond", func(c *api.Mach) { c.At = len(c.Ids) + 1 })
		one("an answer too many", func(c *api.Mach) { c.Told = append(slices.Clone(c.Told), api.Resp{}) })
		l = append(l, change{fmt.Sprint("an answer too few ", i), func(w *api.World) bool {
			told := w.Machs[i].Told
			if len(told) == 0 {
				return false
			}
			w.Machs = slices.Clone(w.Machs)
			w.Machs[i].Told = told[:len(told)-1]
			return true
		}})
	}
	return l
}

// changesOfLocks make the mutexes wrong.
func changesOfLocks() []change {
	l := []change{
		always("no mutexes", func(w *api.World) { w.Locks = nil }),
		always("a mutex too few", func(w *api.World) { w.Locks = w.Locks[:64] }),
		always("a mutex too many", func(w *api.World) { w.Locks = append(slices.Clone(w.Locks), 0) }),
	}
	for _, id := range []int{0, 3, 60, 64} {
		for _, who := range []int{-1, 4, 5, 8, 9, most, least} {
			l = append(l, always(fmt.Sprint("the mutex ", id, " is held by ", who), func(w *api.World) { w.Locks = put(w.Locks, id, who) }))
		}
		for who := range 4 {
			if id == 64 && who == 0 { // nobody ever holds it
				continue
			}
			l = append(l, change{fmt.Sprint("the mutex ", id, " is held by another one: ", who), func(w *api.World) bool {
				was := w.Locks[id]
				w.Locks = put(w.Locks, id, who)
				return was != who
			}})
		}
	}
	return l
}

// lastAt is when the last event was.
func lastAt(h []api.Event) int {
	if len(h) == 0 {
		return 0
	}
	return h[len(h)-1].At
}

// next is the event of an arm that comes behind a right history.
func next(h []api.Event, who int) api.Event {
	n := 0
	for _, e := range h {
		if e.Who == who {
			n++
		}
	}
	return api.Event{Kind: 1 + n%3, Who: who, Num: 1 + n/3, At: lastAt(h) + 1}
}

// more is a world with so many more events of an arm behind its history, and time for them.
func more(w *api.World, who, n int) {
	w.Hist = slices.Clone(w.Hist)
	for range n {
		w.Hist = append(w.Hist, next(w.Hist, who))
	}
	w.Now = max(w.Now, lastAt(w.Hist))
}

// less is a world without the last events of an arm, if it has so many.
func less(w *api.World, who, n int) bool {
	w.Hist = slices.Clone(w.Hist)
	for i, e := range slices.Backward(w.Hist) {
		if e.Who == who && n > 0 {
			w.Hist = slices.Delete(w.Hist, i, i+1)
			n--
		}
	}
	return n == 0
}

// changesOfHist make the history or the clock wrong, or the history another one than the sessions'.
func changesOfHist() []change {
	var l []change
	for _, now := range []int{-1, least, flow + 1, flow + 2, most, -flow} {
		l = append(l, always(fmt.Sprint("now is ", now), func(w *api.World) { w.Now = now }))
	}
	l = append(l, change{"the last event is later", func(w *api.World) bool {
		w.Now = lastAt(w.Hist) - 1
		return w.Now >= 0
	}})
	l = append(l, change{"no history", func(w *api.World) bool {
		was := w.Hist
		w.Hist = nil
		return len(was) > 0
	}})
	for who := 1; who <= 8; who++ {
		l = append(l, always(fmt.Sprint("an event too many of ", who), func(w *api.World) { more(w, who, 1) }))
		l = append(l, always(fmt.Sprint("two events too many of ", who), func(w *api.World) { more(w, who, 2) }))
		l = append(l, always(fmt.Sprint("three events too many of ", who), func(w *api.World) { more(w, who, 3) }))
	}
	for who := 1; who <= 3; who++ {
		for n := 1; n <= 3; n++ {
			l = append(l, change{fmt.Sprint(n, " events too few of ", who), func(w *api.World) bool { return less(w, who, n) }})
		}
		// As many in all, but not of each.
		for other := 1; other <= 4; other++ {
			if other != who {
				l = append(l, change{fmt.Sprint("an event of ", other, " instead of one of ", who), func(w *api.World) bool {
					ok := less(w, who, 1)
					more(w, other, 1)
					return ok
				}})
			}
		}
	}
	events := []func(e *api.Event){
		func(e *api.Event) { e.At = 0 }, func(e *api.Event) { e.At = -1 }, func(e *api.Event) { e.At = most }, func(e *api.Event) { e.Who = 0 }, func(e *api.Event) { e.Who = 9 }, func(e *api.Event) { e.Who = least }, func(e *api.Event) { e.Kind = 0 }, func(e *api.Event) { e.Kind = 4 }, func(e *api.Event) { e.Kind = 1 + e.Kind%3 }, func(e *api.Event) { e.Num++ }, func(e *api.Event) { e.Num-- }, func(e *api.Event) { e.Who = 1 + e.Who%3 }, func(e *api.Event) { e.Who = 4 },
	}
	for i, do := range events {
		l = append(l, change{fmt.Sprint("an event that is wrong ", i), func(w *api.World) bool {
			w.Hist = slices.Clone(w.Hist)
			if len(w.Hist) > 0 {
				do(&w.Hist[len(w.Hist)/2])
			}
			return len(w.Hist) > 0
		}})
	}
	l = append(l, change{"two events at once", func(w *api.World) bool {
		w.Hist = slices.Clone(w.Hist)
		if len(w.Hist) > 1 {
			w.Hist[1].At = w.Hist[0].At
		}
		return len(w.Hist) > 1
	}})
	return l
}

// changes are all of them.
func changes() []change {
	return slices.Concat(changesOfModel(), changesOfMachs(), changesOfLocks(), changesOfHist())
}

// rightBook tells whether a world is right: condition by condition, as the chapter has them.
func rightBook(w api.World) bool {
	if !model.Right(w.Model) || len(w.Machs) != w.Model.Deck.Arms || !hist.Right(w.Hist) {
		return false
	}
	if w.Now < 0 || w.Now > flow || lastAt(w.Hist) > w.Now {
		return false
	}
	for i, c := range w.Machs {
		if c.Who != i+1 || !machine.Right(w.Model, w.Locks, c) {
			return false
		}
		events, tells := 0, 0
		for _, e := range w.Hist {
			if e.Who == c.Who {
				events++
			}
			if e.Who == c.Who && e.Kind == api.EvTell {
				tells++
			}
		}
		n := 3 * c.Num
		switch c.Phase {
		case 1, 2, 3:
			n -= 2
		case 4, 5:
			n--
		}
		if events != n || len(c.Told) != tells {
			return false
		}
	}
	for _, e := range w.Hist {
		if e.Who > len(w.Machs) {
			return false
		}
	}
	return slices.Max(w.Locks) <= len(w.Machs)
}

func TestRight(t *testing.T) {
	var phases [7]int
	for i, w := range onTheWay() {
		if !world.Right(w) || !rightBook(w) {
			t.Error(i, "not right", w.Machs, w.Locks, w.Hist)
		}
		for _, c := range w.Machs {
			phases[c.Phase]++
		}
	}
	if slices.Min(phases[:]) == 0 {
		t.Error("a phase lacks", phases)
	}
	if world.Right(api.World{}) || world.Right(api.World{Machs: make([]api.Mach, 3)}) {
		t.Error("nothing is right")
	}
}

// TestRightStill has worlds that are changed in what may be as it likes.
func TestRightStill(t *testing.T) {
	for i, first := range onTheWay() {
		still := func(what string, do func(w *api.World)) {
			w := first
			w.Machs, w.Hist = slices.Clone(w.Machs), slices.Clone(w.Hist)
			if do(&w); !world.Right(w) || !rightBook(w) {
				t.Error(i, what, w.Machs, w.Hist)
			}
		}
		still("now is the last event", func(w *api.World) { w.Now = lastAt(w.Hist) })
		still("later", func(w *api.World) { w.Now++ })
		still("the last moment", func(w *api.World) { w.Now = flow })
		still("nearly that", func(w *api.World) { w.Now = flow - 1 })
		still("all is later", func(w *api.World) {
			for j := range w.Hist {
				w.Hist[j].At += flow - w.Now
			}
			w.Now = flow
		})
		still("all is earlier", func(w *api.World) {
			for j := range w.Hist {
				w.Hist[j].At = j + 1
			}
			w.Now = len(w.Hist)
		})
		still("other answers", func(w *api.World) {
			for j, c := range w.Machs {
				w.Machs[j].Told = slices.Repeat([]api.Resp{{Err: 99, N: -1}}, len(c.Told))
				w.Machs[j].Resp = api.Resp{Id: -9}
			}
		})
		still("more to do", func(w *api.World) {
			for j, c := range w.Machs {
				if c.Phase != api.PhaseEnd {
					w.Machs[j].Todo = slices.Concat(c.Todo, jobs()[0], reqs(api.Req{Kind: -9}))
				}
			}
		})
		still("the owner of what nobody looks at", func(w *api.World) {
			owners := w.Model.Owners
			w.Model.Owners = put(owners, 20, 0)
		})
	}
}

func TestNotRight(t *testing.T) {
	done := map[string]int{}
	for i, first := range onTheWay() {
		for _, c := range changes() {
			w := first
			if !c.do(&w) {
				continue
			}
			done[c.what]++
			if world.Right(w) || rightBook(w) {
				t.Error(i, c.what, w.Machs, w.Now, w.Hist)
			}
			if !world.Right(first) {
				t.Fatal("the test changed what it ought not to", c.what)
			}
		}
	}
	for _, c := range changes() {
		if done[c.what] < 2 {
			t.Error("too little is changed by", c.what)
		}
	}
}

// TestRightByPhase has a session in each phase, with as many events and answers as it must have, and with others.
func TestRightByPhase(t *testing.T) {
	// Each world is behind so many steps of the arm 2; the one that it stands in is its second request.
	todo := todos(nil, reqs(ask(0), reserve(0, 3), free()))
	var seen [7]bool
	for steps := 5; steps <= 5+9+7; steps++ {
		w := at(small(), todo, times(steps, 2)...)
		c := w.Machs[1]
		seen[c.Phase] = true
		must := map[int]int{0: 3 * c.Num, 6: 3 * c.Num, 1: 3*c.Num - 2, 2: 3*c.Num - 2, 3: 3*c.Num - 2, 4: 3*c.Num - 1, 5: 3*c.Num - 1}[c.Phase]
		for events := range 12 {
			for told := range 5 {
				n := w
				n.Machs = put(n.Machs, 1, c)
				n.Hist, n.Now = nil, 0
				more(&n, 2, events)
				n.Machs[1].Told = make([]api.Resp, told)
				if right := events == must && told == must/3; world.Right(n) != right || rightBook(n) != right {
					t.Error(c.Phase, steps, events, told)
				}
			}
		}
	}
	for phase := api.PhaseRest; phase <= api.PhaseEnd; phase++ {
		if !seen[phase] {
			t.Error("not seen", phase)
		}
	}
}

// TestRightOfAnyNumber changes numbers of worlds by chance; they are right just when the chapter's conditions say so.
func TestRightOfAnyNumber(t *testing.T) {
	r := rand.New(rand.NewSource(3))
	right := 0
	worlds := onTheWay()
	for range 3000 {
		w := worlds[r.Intn(len(worlds))]
		w.Machs, w.Hist, w.Locks = slices.Clone(w.Machs), slices.Clone(w.Hist), slices.Clone(w.Locks)
		c, by := &w.Machs[r.Intn(3)], r.Intn(3)-1
		switch r.Intn(9) {
		case 0:
			w.Now += by
		case 1:
			w.Locks[r.Intn(65)] += by
		case 2:
			c.Phase += by
		case 3:
			c.At += by
		case 4:
			c.Num += by
		case 5:
			c.Ids = put(append(slices.Clone(c.Ids), 64), len(c.Ids), r.Intn(65))[:len(c.Ids)+max(by, 0)]
		case 6:
			c.Told = make([]api.Resp, max(0, len(c.Told)+by))
		case 7:
			more(&w, 1+r.Intn(4), max(0, by))
		default:
			if len(w.Hist) > 0 {
				e := &w.Hist[r.Intn(len(w.Hist))]
				n := r.Intn(4)
				*[]*int{&e.Kind, &e.Who, &e.Num, &e.At}[n] += by
			}
		}
		is := rightBook(w)
		if world.Right(w) != is {
			t.Fatal(is, w.Machs, w.Locks, w.Now, w.Hist)
		}
		if is {
			right++
		}
	}
	if right < 300 || right > 2700 {
		t.Error("too much of one kind", right)
	}
}

// P21.2

// nothing holds what the calls answer of a world that is not right against what they must.
func nothing(t *testing.T, what string, w api.World) {
	t.Helper()
	if len(world.Runnable(w)) > 0 || len(world.Waits(w)) > 0 || world.Over(w) {
		t.Error(what, world.Runnable(w), world.Waits(w), world.Over(w))
	}
	for _, who := range []int{0, 1, 2, 3, 4, 8, -1, most, least} {
		if got, ok := world.Step(w, who); ok || !same(got, w) {
			t.Error(what, who, ok)
		}
	}
}

func TestOfTheWrong(t *testing.T) {
	worlds := onTheWay()
	for n, c := range changes() {
		for _, i := range []int{n % len(worlds), len(worlds) - 1, 0} {
			if w := worlds[i]; c.do(&w) {
				nothing(t, c.what, w)
			}
		}
	}
	nothing(t, "nothing", api.World{})
	nothing(t, "a model alone", api.World{Model: worlds[0].Model, Locks: make([]int, 65)})
}

func TestRunnable(t *testing.T) {
	none := reqs()
	for i, c := range []struct {
		w    api.World
		want []int
	}{
		{at(lab(), nil), nil}, {at(lab(), jobs()), ids(1, 2, 3)}, {at(lab(), todos(none, reqs(free()))), ids(2)}, {at(lab(), todos(reqs(ask(0)), nil, reqs(ask(0)))), ids(1, 3)}, {at(arms(8), slices.Repeat(todos(reqs(ask(0))), 8)), ids(1, 2, 3, 4, 5, 6, 7, 8)}, {at(arms(1), todos(reqs(free()))), ids(1)},
		// Over, or the one of them.
		{at(lab(), todos(reqs(free())), 1, 1, 1), nil}, {at(lab(), todos(reqs(free()), reqs(ask(1))), 1, 1, 1), ids(2)},
		// Both called, and want the mutex of 0; one has it.
		{at(lab(), todos(reqs(ask(0)), reqs(ask(0))), 1, 2), ids(1, 2)}, {at(lab(), todos(reqs(ask(0)), reqs(ask(0))), 1, 2, 1), ids(1)}, {at(lab(), todos(reqs(ask(0)), reqs(ask(0))), 1, 2, 2), ids(2)}, {at(lab(), todos(reqs(ask(0)), reqs(ask(0))), 1, 2, 2, 2), ids(2)}, {at(lab(), todos(reqs(ask(0)), reqs(ask(0))), 1, 2, 2, 2, 2), ids(1, 2)}, {at(lab(), todos(reqs(ask(0)), reqs(ask(0)), reqs(ask(0))), 2, 2, 3), ids(1, 2)}, {at(lab(), todos(reqs(ask(0)), reqs(ask(0)), reqs(ask(1))), 2, 2, 3, 1, 3), ids(2, 3)},
		// The second mutex is another one's; the first one is held on.
		{at(lab(), todos(reqs(reserve(3, 5)), reqs(ask(5)), reqs(ask(3))), 1, 1, 1, 2, 2, 3), ids(2)}, {at(lab(), todos(reqs(reserve(3, 5)), reqs(ask(5)), reqs(ask(3))), 1, 1, 1, 2, 2, 3, 2, 2), ids(1, 2)},
	} {
		if got := world.Runnable(c.w); !slices.Equal(got, c.want) {
			t.Error(i, got)
		}
	}
	for i, w := range onTheWay() {
		var may []int
		for _, c := range w.Machs {
			if machine.May(w.Locks, c) {
				may = append(may, c.Who)
			}
		}
		if got := world.Runnable(w); !slices.Equal(got, may) {
			t.Error(i, got, may)
		}
	}
}

// TestLastMoment has worlds whose clock has nearly come to its end, and to it.
func TestLastMoment(t *testing.T) {
	for i, w := range onTheWay() {
		may, waits, over := world.Runnable(w), world.Waits(w), world.Over(w)
		w.Now = flow
		if len(world.Runnable(w)) > 0 || !slices.Equal(world.Waits(w), waits) || world.Over(w) != over {
			t.Error(i, world.Runnable(w), world.Waits(w))
		}
		for who := range 5 {
			if got, ok := world.Step(w, who); ok || !same(got, w) {
				t.Error(i, who, ok)
			}
		}
		w.Now = flow - 1
		if !slices.Equal(world.Runnable(w), may) {
			t.Error(i, world.Runnable(w), may)
		}
		for _, who := range may {
			got, ok := world.Step(w, who)
			if !ok || got.Now != flow || !world.Right(got) || len(world.Runnable(got)) > 0 {
				t.Error(i, who, ok, got.Now)
			}
			if len(got.Hist) > len(w.Hist) && lastAt(got.Hist) != flow {
				t.Error(i, who, lastAt(got.Hist))
			}
		}
	}
}

// stepBook is what a step leads to of an arm of a right world that may step.
func stepBook(w api.World, who int) api.World {
	var event int
	w.Machs = slices.Clone(w.Machs)
	w.Model, w.Locks, w.Machs[who-1], event = machine.Step(w.Model, w.Locks, w.Machs[who-1])
	w.Now++
	w.Hist = slices.Clone(w.Hist)
	if event > 0 {
		w.Hist = append(w.Hist, api.Event{Kind: event, Who: who, Num: w.Machs[who-1].Num, At: w.Now})
	}
	return w
}

func TestStep(t *testing.T) {
	kinds := map[int]int{}
	for i, w := range onTheWay() {
		may := world.Runnable(w)
		for _, who := range []int{0, 1, 2, 3, 4, 5, 7, 8, 9, -1, -2, most, least, 1<<32 + 1} {
			got, ok := world.Step(w, who)
			switch {
			case ok != slices.Contains(may, who):
				t.Error(i, who, ok)
			case !ok && !same(got, w):
				t.Error(i, who, "changed")
			case ok && (!same(got, stepBook(w, who)) || !world.Right(got) || !rightBook(got)):
				t.Error(i, who, got.Machs, got.Hist)
			case ok && len(got.Hist) > len(w.Hist):
				kinds[got.Hist[len(got.Hist)-1].Kind]++
			case ok:
				kinds[0]++
			}
		}
	}
	for kind := range 4 {
		if kinds[kind] < 5 {
			t.Error("too little", kinds)
		}
	}
}

// TestStepHist has the history of a whole run, and of one that goes on beside others.
func TestStepHist(t *testing.T) {
	w := at(small(), todos(nil, reqs(free(), reserve(0, 3))), times(12, 2)...)
	right := []api.Event{{Kind: 1, Who: 2, Num: 1, At: 1}, {Kind: 2, Who: 2, Num: 1, At: 2}, {Kind: 3, Who: 2, Num: 1, At: 3}, {Kind: 1, Who: 2, Num: 2, At: 4}, {Kind: 2, Who: 2, Num: 2, At: 9}, {Kind: 3, Who: 2, Num: 2, At: 12}}
	if w.Now != 12 || !world.Over(w) || !slices.Equal(w.Hist, right) {
		t.Error(w.Now, w.Hist)
	}
	if now := at(small(), todos(nil, reqs(free(), reserve(0, 3))), times(8, 2)...); now.Now != 8 || !slices.Equal(now.Hist, right[:4]) {
		t.Error(now.Now, now.Hist)
	}
	w = at(small(), todos(reqs(ask(0)), reqs(ask(1))), 2, 1, 1, 2, 2, 1, 2, 2, 1, 1)
	right = []api.Event{{Kind: 1, Who: 2, Num: 1, At: 1}, {Kind: 1, Who: 1, Num: 1, At: 2}, {Kind: 2, Who: 2, Num: 1, At: 5}, {Kind: 2, Who: 1, Num: 1, At: 6}, {Kind: 3, Who: 2, Num: 1, At: 8}, {Kind: 3, Who: 1, Num: 1, At: 10}}
	if w.Now != 10 || !world.Over(w) || !slices.Equal(w.Hist, right) || !same(w.Machs[0].Told, []api.Resp{{N: 40}}) || !same(w.Machs[1].Told, []api.Resp{{}}) {
		t.Error(w.Now, w.Hist)
	}
	// A part that is another one's is looked at: that is done, too.
	w = at(small(), todos(reqs(reserve(3)), reqs(reserve(3, 1))), slices.Concat(times(6, 1), times(5, 2))...)
	if e := w.Hist[len(w.Hist)-1]; e != (api.Event{Kind: 2, Who: 2, Num: 1, At: 11}) || w.Machs[1].Resp.Err != api.ErrBusy || w.Machs[1].Resp.Id != 3 {
		t.Error(w.Hist, w.Machs[1])
	}
}

// TestClash is the chapter's example: who looks first has the lane.
func TestClash(t *testing.T) {
	todo := todos(reqs(reserve(3)), reqs(reserve(3)))
	for first := 1; first <= 2; first++ {
		other := 3 - first
		// The other one calls first, but looks last.
		w := at(small(), todo, slices.Concat(ids(other, first, first), times(4, first), times(4, other))...)
		if a := w.Machs[first-1].Told; !world.Over(w) || !same(a, []api.Resp{{N: 1}}) || w.Model.Owners[3] != first {
			t.Error(first, a)
		}
		if a := w.Machs[other-1].Told; !same(a, []api.Resp{{Err: api.ErrBusy, Id: 3}}) {
			t.Error(other, a)
		}
		if !slices.Equal(w.Locks, make([]int, 5)) {
			t.Error(w.Locks)
		}
	}
}

func TestWaits(t *testing.T) {
	todo := todos(nil, reqs(reserve(4, 0, 3)))
	// Step by step: rest; lock 0, look, lock 3, look, lock 4, look; do; free, free, free; tell; end.
	for i, want := range []int{-1, 0, -1, 3, -1, 4, -1, -1, -1, -1, -1, -1, -1} {
		if got := world.Waits(at(small(), todo, times(i, 2)...)); !slices.Equal(got, ids(-1, want)) {
			t.Error(i, got)
		}
	}
	for i, c := range []struct {
		w    api.World
		want []int
	}{
		{at(lab(), nil), ids(-1, -1, -1)}, {at(arms(1), nil), ids(-1)}, {at(arms(8), nil), times(8, -1)}, {at(lab(), todos(reqs(ask(7)), reqs(ask(7)), reqs(ask(54))), 3, 1, 2, 1), ids(-1, 7, 54)}, {at(lab(), todos(reqs(fill(0, 1)), reqs(fill(3, 1)), reqs(take(56))), 1, 2, 3, 1, 1, 2, 3), ids(61, 60, 61)},
	} {
		if got := world.Waits(c.w); !slices.Equal(got, c.want) {
			t.Error(i, got)
		}
	}
	for i, w := range onTheWay() {
		var wants []int
		for _, c := range w.Machs {
			wants = append(wants, machine.Wants(c))
		}
		if got := world.Waits(w); !slices.Equal(got, wants) {
			t.Error(i, got, wants)
		}
	}
}

func TestOver(t *testing.T) {
	for i, w := range []api.World{at(lab(), nil), at(arms(1), todos(nil)), at(small(), todos(reqs(free()), reqs(free())), 1, 2, 1, 2, 1, 2), at(small(), todos(nil, reqs(free())), 2, 2, 2)} {
		if !world.Over(w) || len(world.Runnable(w)) > 0 {
			t.Error(i)
		}
	}
	for i, w := range []api.World{at(lab(), jobs()), at(lab(), todos(nil, nil, reqs(free()))), at(small(), todos(reqs(free()), reqs(free())), 1, 2, 1, 2, 1), at(small(), todos(reqs(free()), reqs(free())), 1, 1, 1), at(small(), todos(reqs(free()), reqs(free())), 2, 2, 2), at(small(), todos(reqs(free(), free())), 1, 1, 1)} {
		if world.Over(w) || len(world.Runnable(w)) == 0 {
			t.Error(i)
		}
	}
	for i, w := range onTheWay() {
		left := 0
		for _, c := range w.Machs {
			if c.Phase != 6 {
				left++
			}
		}
		if world.Over(w) != (left == 0) {
			t.Error(i, left)
		}
	}
}

// R3

// roomy is a list with room behind its end, and something in it.
func roomy[T any](l []T, odd T) []T { return append(slices.Clone(l), odd, odd)[:len(l)] }

// whole is a list with two more in the room behind its end.
func whole[T any](l []T) []T { return l[:len(l)+2] }

// What lies in the room behind a list's end.
func oddReq() api.Req   { return api.Req{Kind: -7} }
func oddResp() api.Resp { return api.Resp{N: -7} }

// roomyWorld is a world with room behind its lists.
func roomyWorld(w api.World) api.World {
	w.Model.Owners, w.Locks = roomy(w.Model.Owners, -7), roomy(w.Locks, -7)
	w.Model.Stock.Cells, w.Model.Stock.Tips = roomy(w.Model.Stock.Cells, api.Cell{Ver: -7}), roomy(w.Model.Stock.Tips, api.Tip{By: -7})
	w.Machs, w.Hist = roomy(w.Machs, api.Mach{Who: -7}), roomy(w.Hist, api.Event{At: -7})
	for i, c := range w.Machs {
		w.Machs[i].Ids, w.Machs[i].Todo, w.Machs[i].Told = roomy(c.Ids, -7), roomy(c.Todo, oddReq()), roomy(c.Told, oddResp())
	}
	return w
}

// text is all of a roomy world.
func text(w api.World) string {
	l := []any{w, whole(w.Model.Owners), whole(w.Locks), whole(w.Model.Stock.Cells), whole(w.Model.Stock.Tips), whole(w.Machs), whole(w.Hist)}
	for _, c := range w.Machs {
		l = append(l, whole(c.Ids), whole(c.Todo), whole(c.Told))
	}
	return fmt.Sprint(l...)
}

// spoil writes into a list, and into the room behind its end.
func spoil(l []int) {
	for i := range l[:cap(l)] {
		l[:cap(l)][i] = -99
	}
}

func TestKeepsArguments(t *testing.T) {
	for i, w := range onTheWay() {
		w = roomyWorld(w)
		was := text(w)
		world.Right(w)
		world.Over(w)
		spoil(world.Runnable(w))
		spoil(world.Waits(w))
		for who := range 5 {
			// All that comes of it: each step may leave memory of the last one in place, but writes into none.
			next, ok := world.Step(w, who)
			for ; ok; next, ok = world.Step(next, who) {
			}
			for may := world.Runnable(next); len(may) > 0; may = world.Runnable(next) {
				next = on(next, may[0])
			}
		}
		if text(w) != was {
			t.Error(i, "changed")
		}
	}
	todo := jobs()
	for i, l := range todo {
		todo[i] = roomy(l, oddReq())
	}
	todo, d := roomy(todo, reqs(oddReq())), lab()
	d.Borders, d.Plates, d.Racks = roomy(d.Borders, -7), roomy(d.Plates, api.Plate{Cap: -7}), roomy(d.Racks, api.Rack{Rows: -7})
	was := fmt.Sprint(whole(d.Borders), whole(d.Plates), whole(d.Racks), whole(todo), whole(todo[0]), whole(todo[1]), whole(todo[2]))
	w, _ := world.New(d, todo)
	for !world.Over(w) {
		w = on(w, world.Runnable(w)[0])
	}
	if fmt.Sprint(whole(d.Borders), whole(d.Plates), whole(d.Racks), whole(todo), whole(todo[0]), whole(todo[1]), whole(todo[2])) != was {
		t.Error("changed")
	}
}

// TestKeepsBranches goes on from each world in all ways: what the one has is not written into by the others.
func TestKeepsBranches(t *testing.T) {
	r := rand.New(rand.NewSource(5))
	w := at(lab(), jobs())
	for !world.Over(w) {
		may := world.Runnable(w)
		was := fmt.Sprint(w)
		var nexts []api.World
		var texts []string
		for _, who := range may {
			next := on(w, who)
			nexts, texts = append(nexts, next), append(texts, fmt.Sprint(next))
			for further := world.Runnable(next); len(further) > 0; further = further[1:] {
				on(next, further[0])
			}
		}
		for i, next := range nexts {
			if fmt.Sprint(next) != texts[i] || fmt.Sprint(w) != was {
				t.Fatal("changed", next.Hist, texts[i])
			}
		}
		w = nexts[r.Intn(len(nexts))]
	}
}

// P21.3, P21.4, P21.5

// watch is a run that is held at each moment against the model behind the requests done so far.
type watch struct {
	w    api.World
	todo [][]api.Req
	m    api.Model    // behind the requests done so far
	told [][]api.Resp // what it tells of these, arm by arm
}

// watched is a run at its beginning.
func watched(d api.Deck, todo [][]api.Req) watch {
	m, err := model.New(d)
	if err != api.OK {
		panic("a deck of the test is refused")
	}
	return watch{at(d, todo), todo, m, make([][]api.Resp, d.Arms)}
}

// step has an arm step, and looks whether all that the chapter promises holds then.
func (v *watch) step(t *testing.T, who int) {
	t.Helper()
	was := v.w
	v.w = on(v.w, who)
	if more := v.w.Hist[len(was.Hist):]; len(more) > 0 && more[0].Kind == api.EvDo {
		m, a := model.Do(v.m, who, v.todo[who-1][more[0].Num-1])
		v.m = m
		v.told = put(v.told, who-1, append(slices.Clip(v.told[who-1]), a))
	}
	v.look(t)
}

// look looks whether the moment is one of the model, and somebody gets on.
func (v *watch) look(t *testing.T) {
	t.Helper()
	if !world.Right(v.w) || !rightBook(v.w) {
		t.Fatal("not right", v.w.Machs, v.w.Hist)
	}
	if !same(v.w.Model, v.m) {
		t.Fatal("another model", v.w.Model, v.m)
	}
	for i, c := range v.w.Machs {
		got := c.Told
		if c.Phase == api.PhaseFree || c.Phase == api.PhaseTell {
			got = append(slices.Clip(got), c.Resp)
		}
		if !same(got, v.told[i]) {
			t.Fatal("other answers", got, v.told[i])
		}
	}
	waits := world.Waits(v.w)
	if !mutex.Ordered(v.w.Locks, waits) || len(mutex.Stuck(v.w.Locks, waits)) > 0 {
		t.Fatal("stuck", waits, v.w.Locks)
	}
	if world.Over(v.w) == (len(world.Runnable(v.w)) > 0) {
		t.Fatal("nobody gets on", v.w.Machs)
	}
}

// done is the requests in the order of their EvDo.
func (v *watch) done() []api.Asked {
	var l []api.Asked
	for _, c := range hist.Done(v.w.Hist) {
		l = append(l, api.Asked{Who: c.Who, Req: v.todo[c.Who-1][c.Num-1]})
	}
	return l
}

// end looks at what is promised of a run that is over.
func (v *watch) end(t *testing.T, d api.Deck) {
	t.Helper()
	first, _ := model.New(d)
	m, told := model.Run(first, v.done())
	all := make([][]api.Resp, d.Arms)
	for i, c := range hist.Done(v.w.Hist) {
		all[c.Who-1] = append(all[c.Who-1], told[i])
	}
	if !same(m, v.w.Model) || !hist.Fits(v.w.Hist, hist.Done(v.w.Hist)) || !slices.Equal(v.w.Locks, make([]int, len(v.w.Locks))) {
		t.Fatal("not one after the other")
	}
	for i, c := range v.w.Machs {
		if !same(c, api.Mach{Who: i + 1, Phase: 6, Num: len(all[i]), Told: all[i]}) || i < len(v.todo) && len(all[i]) != len(v.todo[i]) {
			t.Fatal("the end", c)
		}
	}
}

// TestRuns has many runs of lab, in which arms work on what they reserve.
func TestRuns(t *testing.T) {
	r := rand.New(rand.NewSource(11))
	ends, waits := map[api.Errno]int{}, 0
	for i := range 60 {
		todo := make([][]api.Req, 3)
		for who := 1; who <= 3; who++ {
			todo[who-1] = anyTodo(r, who, r.Intn(7))
		}
		v := watched(lab(), todo)
		v.look(t)
		for last := 0; !world.Over(v.w); {
			may := world.Runnable(v.w)
			who := may[r.Intn(len(may))]
			if i%3 > 0 && r.Intn(4) > 0 && slices.Contains(may, last) {
				who = last // some go on further than others
			}
			for _, c := range v.w.Machs {
				if c.Phase == api.PhaseLock && !slices.Contains(may, c.Who) {
					waits++
				}
			}
			v.step(t, who)
			last = who
		}
		v.end(t, lab())
		for _, c := range v.w.Machs {
			for _, a := range c.Told {
				ends[a.Err]++
			}
		}
	}
	for _, err := range []api.Errno{api.OK, api.ErrBusy, api.ErrOwner, api.ErrKind} {
		if ends[err] < 3 {
			t.Error("too little happens", ends)
		}
	}
	if waits < 30 {
		t.Error("nobody waits", waits)
	}
}

// anyTodo is requests of an arm: ways to fill wells, from the first lane that it needs on, mixed with others.
func anyTodo(r *rand.Rand, who, n int) []api.Req {
	var l []api.Req
	for len(l) < n {
		tip, a := 55+r.Intn(5), r.Intn(6)
		work := []api.Req{take(tip), fill(a, 1+r.Intn(40)), waste(a, 1+r.Intn(40)), move(a, (a+1)%6, 1+r.Intn(9))}
		on := work[r.Intn(4)]
		switch r.Intn(5) {
		case 0:
			l = append(l, reserve(want.Must(lab(), work[0])...), work[0], reserve(want.Must(lab(), on)...), on)
		case 1:
			l = append(l, []api.Req{free(), drop(), release(a), ask(a), since(a, r.Intn(3)), {Kind: 11}, fill(a, 0)}[r.Intn(7)])
		case 2:
			l = append(l, reserve(r.Perm(65)[:1+r.Intn(4)]...))
		default:
			l = append(l, on)
		}
	}
	return l
}

// TestAllRuns goes through all runs of two arms with little to do, each to its end.
func TestAllRuns(t *testing.T) {
	for i, todo := range [][][]api.Req{
		todos(reqs(reserve(3)), reqs(reserve(3))), todos(reqs(ask(0)), reqs(ask(0))), todos(reqs(free()), reqs(drop())), todos(reqs(take(2)), reqs(reserve(4))), todos(reqs(reserve(0)), reqs(release(0))), todos(reqs(fill(0, 1)), reqs(api.Req{Kind: 99})), todos(nil, reqs(reserve(0, 3), free())), todos(reqs(free(), drop()), reqs(ask(0))),
	} {
		runs := 0
		var on func(v watch)
		on = func(v watch) {
			if world.Over(v.w) {
				runs++
				v.end(t, small())
				return
			}
			for _, who := range world.Runnable(v.w) {
				next := v
				next.step(t, who)
				on(next)
			}
		}
		v := watched(small(), todo)
		v.look(t)
		on(v)
		if runs < 20 && i != 6 || runs == 0 {
			t.Error("too few runs", i, runs)
		}
	}
}

// TestMany has a run of as many requests as there may be.
func TestMany(t *testing.T) {
	w := at(arms(8), slices.Repeat(todos(slices.Repeat(reqs(api.Req{}), 512)), 8))
	for i := range 3 * 4096 {
		if i%1024 == 0 && !world.Right(w) {
			t.Fatal("not right", i)
		}
		w = on(w, 1+i%8)
	}
	if !world.Over(w) || w.Now != 3*4096 || len(w.Hist) != w.Now || len(w.Machs[7].Told) != 512 {
		t.Error(w.Now, len(w.Hist))
	}
}
