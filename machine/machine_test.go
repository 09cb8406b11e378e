package machine_test

import (
	"fmt"
	"math"
	"math/rand"
	"slices"
	"testing"

	"deckhand/api"
	"deckhand/machine"
	"deckhand/model"
	"deckhand/plan"
	"deckhand/want"
)

const (
	most  = 1<<63 - 1
	least = -1 << 63
	last  = 1<<31 - 1 // the greatest number of a request
)

// ids is a list of numbers, of a short form.
func ids(l ...int) []int { return l }

// from is n numbers from a first one on.
func from(first, n int) []int {
	l := make([]int, n)
	for i := range l {
		l[i] = first + i
	}
	return l
}

// bits is the bits of so many nanolitres as microlitres.
func bits(n int) uint64 { return math.Float64bits(float64(n) / 1000) }

// The requests of each kind, in a short form; volumes in nanolitres.
func reserve(l ...int) api.Req { return api.Req{Kind: 1, Ids: l} }
func release(l ...int) api.Req { return api.Req{Kind: 2, Ids: l} }
func free() api.Req            { return api.Req{Kind: 3} }
func move(a, b, n int) api.Req { return api.Req{Kind: 4, A: a, B: b, Vol: bits(n)} }
func fill(a, n int) api.Req    { return api.Req{Kind: 5, A: a, Vol: bits(n)} }
func waste(a, n int) api.Req   { return api.Req{Kind: 6, A: a, Vol: bits(n)} }
func take(a int) api.Req       { return api.Req{Kind: 7, A: a} }
func drop() api.Req            { return api.Req{Kind: 8} }
func ask(a int) api.Req        { return api.Req{Kind: 9, A: a} }
func since(a, ver int) api.Req { return api.Req{Kind: 10, A: a, Ver: ver} }

// reqs is a list of requests, of a short form.
func reqs(l ...api.Req) []api.Req { return l }

// same tells whether two things are; what is printed tells nil and empty lists not apart.
func same(a, b any) bool { return fmt.Sprint(a) == fmt.Sprint(b) }

// rails is n lanes that are 9 wide.
func rails(n int) []float64 {
	l := make([]float64, n+1)
	for i := range l {
		l[i] = float64(9 * i)
	}
	return l
}

// lab is a deck of three arms and 65 ids. The wells 0 and 3 cover the lanes 60 and 61, 1 and 4 the lanes 61 and 62, 2 and 5 the lanes 62 and 63; 6 to 53 cover 64, 54 covers 63. The tip 55 covers 60, 56 covers 61, 57 to 59 cover 61 and 62. 60 to 64 are the lanes.
func lab() api.Deck {
	return api.Deck{
		Borders: rails(5),
		Plates:  []api.Plate{{Rows: 2, Cols: 3, X: 4.5, Pitch: 9, Reach: 4.5, Cap: 100, Start: ids(40, 0, 100, 7)}, {Rows: 4, Cols: 12, X: 37, Pitch: 0.5, Cap: 5000}, {Rows: 1, Cols: 1, X: 31, Cap: 90, Start: ids(80)}},
		Racks:   []api.Rack{{Rows: 1, Cols: 2, X: 1, Pitch: 16}, {Rows: 3, Cols: 1, X: 18, Reach: 3}},
		Arms:    3,
	}
}

// small is a deck of two wells (0, 1), a tip (2), two lanes (3, 4) and two arms; the wells cover 3, the tip 4.
func small() api.Deck {
	return api.Deck{Borders: rails(2), Plates: []api.Plate{{Rows: 1, Cols: 2, X: 1, Pitch: 1, Cap: 100, Start: ids(40)}}, Racks: []api.Rack{{Rows: 1, Cols: 1, X: 10}}, Arms: 2}
}

// asked is a request of an arm, of a short form.
func asked(who int, r api.Req) api.Asked { return api.Asked{Who: who, Req: r} }

// after is a deck's model behind some requests, all of which are done.
func after(d api.Deck, l ...api.Asked) api.Model {
	m, err := model.New(d)
	m, all := model.Run(m, l)
	if err != api.OK || slices.ContainsFunc(all, func(a api.Resp) bool { return a.Err != api.OK }) {
		panic("a request of the test is refused")
	}
	return m
}

// busy is lab in the midst of work: 1 owns 0, 1, 55, 60 to 62 and holds the tip 55; 2 owns 6, 7 and 64 and has no tip; 3 owns 54 and 63 and holds the tip 57.
func busy() api.Model {
	return after(lab(), asked(3, reserve(57, 61, 62)), asked(3, take(57)), asked(3, free()), asked(3, reserve(54, 63)), asked(1, reserve(0, 1, 55, 60, 61, 62)), asked(1, take(55)), asked(1, fill(0, 10)), asked(1, move(0, 1, 20)), asked(2, reserve(6, 7, 64)))
}

// with is a model in which an arm owns some more, whoever owned it.
func with(m api.Model, who int, l ...int) api.Model {
	m.Owners = slices.Clone(m.Owners)
	for _, id := range l {
		m.Owners[id] = who
	}
	return m
}

// table is a table of lab with the mutexes of an arm.
func table(who int, l ...int) []int {
	t := make([]int, 65)
	for _, id := range l {
		t[id] = who
	}
	return t
}

// wrongModels are models that are not right; they are busy but for that.
func wrongModels() []api.Model {
	var l []api.Model
	add := func(do func(m *api.Model)) {
		m := busy()
		do(&m)
		l = append(l, m)
	}
	add(func(m *api.Model) { *m = api.Model{} })
	add(func(m *api.Model) { m.Deck = api.Deck{} })
	add(func(m *api.Model) { m.Deck.Borders = m.Deck.Borders[:1] })
	add(func(m *api.Model) { m.Deck.Racks[1].X = 99 })
	add(func(m *api.Model) { m.Deck.Arms = 2 })
	add(func(m *api.Model) { m.Stock = api.Stock{} })
	add(func(m *api.Model) { m.Stock.Cells[2].Vol-- })
	add(func(m *api.Model) { m.Stock.Tips[1] = api.Tip{State: 2, By: 1} })
	add(func(m *api.Model) { m.Owners = nil })
	add(func(m *api.Model) { m.Owners = m.Owners[:64] })
	add(func(m *api.Model) { m.Owners = append(m.Owners, 0) })
	add(func(m *api.Model) { m.Owners[9] = -1 })
	add(func(m *api.Model) { m.Owners[64] = 4 })
	return l
}

// odds are requests that want refuses.
func odds() []api.Req {
	return reqs(api.Req{}, api.Req{Kind: 11}, api.Req{Kind: -1, A: 3}, api.Req{Kind: most}, reserve(), release(), reserve(from(0, 17)...), release(from(0, 17)...), reserve(5, 3, 5), release(0, 0), reserve(65), reserve(3, -1), release(0, 65), api.Req{Kind: 1, Ids: ids(3), A: 1}, api.Req{Kind: 3, A: 1}, api.Req{Kind: 3, Ids: ids(0)}, api.Req{Kind: 8, A: 55}, api.Req{Kind: 9, A: 0, Vol: 1}, api.Req{Kind: 10, A: 0, B: 1}, api.Req{Kind: 5, A: 0, B: 1, Vol: bits(1)}, move(0, 0, 1), move(0, 55, 1), move(60, 0, 1), move(0, 1, 0), move(0, 1, -1), fill(55, 1), fill(-1, 1), fill(0, 0), fill(65, 1), api.Req{Kind: 5, A: 0, Vol: math.Float64bits(math.NaN())}, api.Req{Kind: 6, A: 0, Vol: math.Float64bits(math.Inf(1))}, waste(60, 1), take(0), take(60), take(-1), take(65), ask(55), ask(64), ask(-1), since(55, 0), since(65, 0))
}

// P20.1

func TestNew(t *testing.T) {
	for _, who := range []int{1, 2, 8, 0, -1, 9, most, least} {
		for _, todo := range [][]api.Req{nil, {}, {free()}, {ask(0), ask(0)}, {reserve(3, 1), {}, move(1, 2, 3), {Kind: 99}}, slices.Repeat(reqs(drop(), fill(1, 2)), 2048)} {
			phase := api.PhaseRest
			if len(todo) == 0 {
				phase = api.PhaseEnd
			}
			if got := machine.New(who, todo); !same(got, api.Mach{Who: who, Phase: phase, Todo: todo}) {
				t.Error(who, len(todo), got)
			}
		}
	}
	if machine.New(1, nil).Phase != 6 || machine.New(1, reqs(free())).Phase != 0 {
		t.Error("phases")
	}
}

func TestIds(t *testing.T) {
	for i, c := range []struct {
		who  int
		r    api.Req
		want []int
	}{
		{1, reserve(60, 5, 3), ids(3, 5, 60)}, {1, reserve(54, 6, 0), ids(0, 6, 54)}, {3, reserve(64), ids(64)}, {2, reserve(from(8, 16)...), from(8, 16)}, {1, release(62, 0), ids(0, 62)}, {1, release(6, 54, 9), ids(6, 9, 54)}, {2, release(64), ids(64)},
		{1, free(), ids(0, 1, 55, 60, 61, 62)}, {2, free(), ids(6, 7, 64)}, {3, free(), ids(54, 63)},
		{1, move(0, 1, 5), ids(0, 1, 60, 61, 62)}, {2, move(5, 0, 5), ids(0, 5, 60, 61, 62, 63)}, {3, move(6, 7, 999), ids(6, 7, 64)}, {1, fill(0, 5), ids(0, 60, 61)}, {2, fill(54, 5), ids(54, 63)}, {3, waste(1, 5), ids(1, 61, 62)}, {1, waste(53, 99999), ids(53, 64)},
		{1, take(56), ids(56, 61)}, {2, take(55), ids(55, 60)}, {3, take(59), ids(59, 61, 62)}, {1, drop(), ids(55)}, {3, drop(), ids(57)}, {2, drop(), nil},
		{1, ask(0), ids(0)}, {2, ask(54), ids(54)}, {3, since(6, 0), ids(6)}, {3, since(0, -5), ids(0)}, {1, since(2, most), ids(2)},
	} {
		if got := machine.Ids(busy(), c.who, c.r); !slices.Equal(got, c.want) {
			t.Error(i, c.who, c.r, got)
		}
	}
	for _, who := range []int{1, 2, 3} {
		for i, r := range odds() {
			if got := machine.Ids(busy(), who, r); len(got) > 0 {
				t.Error(who, i, r, got)
			}
		}
		// Of who owns nothing and holds no tip.
		bare := after(lab())
		for _, r := range reqs(free(), drop()) {
			if got := machine.Ids(bare, who, r); len(got) > 0 {
				t.Error(who, r, got)
			}
		}
	}
}

// TestIdsOfMany has arms that would own as much as they may, and more.
func TestIdsOfMany(t *testing.T) {
	bare := after(lab())
	for i, c := range []struct {
		own  []int
		r    api.Req
		want []int
	}{
		{from(0, 24), reserve(from(24, 16)...), from(24, 16)}, {from(0, 25), reserve(from(25, 16)...), nil}, {from(0, 25), reserve(from(25, 15)...), from(25, 15)}, {from(0, 25), reserve(from(24, 16)...), from(24, 16)}, {from(0, 39), reserve(64), ids(64)}, {from(0, 40), reserve(64), nil}, {from(0, 40), reserve(39), ids(39)}, {from(0, 40), reserve(39, 3, 0), ids(0, 3, 39)}, {from(0, 40), reserve(39, 40), nil}, {from(0, 39), reserve(64, 63), nil}, {from(0, 38), reserve(64, 63), ids(63, 64)}, {from(0, 41), reserve(64), nil}, {from(0, 65), reserve(from(0, 16)...), nil},
		// What is no reserving is not bound by that.
		{from(0, 41), ask(3), ids(3)}, {from(0, 41), release(3, 2), ids(2, 3)}, {from(0, 41), fill(0, 1), ids(0, 60, 61)}, {from(0, 41), free(), from(0, 41)}, {from(0, 65), free(), from(0, 65)}, {from(0, 65), take(55), ids(55, 60)},
	} {
		for who := 1; who <= 3; who++ {
			if got := machine.Ids(with(bare, who, c.own...), who, c.r); !slices.Equal(got, c.want) {
				t.Error(i, who, got)
			}
			if c.r.Kind == api.ReqReserve { // what others own does not count
				if got := machine.Ids(with(bare, 1+who%3, c.own...), who, c.r); len(got) != len(c.r.Ids) {
					t.Error(i, who, got)
				}
			}
		}
	}
}

func TestIdsOfNobody(t *testing.T) {
	some := reqs(reserve(3), release(0), free(), move(0, 1, 1), fill(0, 1), waste(0, 1), take(56), drop(), ask(0), since(6, 0))
	for _, r := range some {
		for i, m := range wrongModels() {
			for _, who := range []int{0, 1, 3} {
				if got := machine.Ids(m, who, r); len(got) > 0 {
					t.Error(i, who, r, got)
				}
			}
		}
		for _, who := range []int{least, -1, 0, 4, 5, 8, 9, most, 1<<32 + 1} {
			if got := machine.Ids(busy(), who, r); len(got) > 0 {
				t.Error(who, r, got)
			}
		}
	}
	// The last arm of a deck, and one more.
	if a, b := machine.Ids(after(small()), 2, ask(1)), machine.Ids(after(small()), 3, ask(1)); !slices.Equal(a, ids(1)) || len(b) > 0 {
		t.Error(a, b)
	}
}

// scene is a session beside a model and a table.
type scene struct {
	m api.Model
	t []int
	c api.Mach
}

// at is a session of the arm 1 at a request, with another one to do: its phase, its ids, and how many of these it holds; the arm 2 holds the mutexes of 7 and 64.
func at(m api.Model, r api.Req, phase int, l []int, held int) scene {
	t := table(1, l[:held]...)
	t[7], t[64] = 2, 2
	return scene{m, t, api.Mach{Who: 1, Phase: phase, Num: 3, Req: r, Ids: l, At: held, Todo: reqs(ask(2)), Told: []api.Resp{{Id: 1}, {N: 2}}}}
}

// rightScenes are right, in all phases: 3, 5 and 8 are nobody's, 0 and 60 the arm 1's own, 54 is another arm's.
func rightScenes() []scene {
	m := busy()
	var l []scene
	add := func(s scene, do func(s *scene)) {
		if do != nil {
			do(&s)
		}
		l = append(l, s)
	}
	// Between requests: whatever stands in Req, Resp and Told.
	add(at(m, api.Req{}, 0, nil, 0), nil)
	add(at(m, move(1, 2, 3), 0, nil, 0), func(s *scene) { s.c.Resp, s.c.Num = api.Resp{Err: 7, N: -3}, 0 })
	add(at(m, api.Req{}, 0, nil, 0), func(s *scene) { s.c.Num, s.c.Todo = last-2, odds()[:2] })
	add(at(m, api.Req{}, 6, nil, 0), func(s *scene) { s.c.Todo = nil })
	add(at(m, free(), 6, nil, 0), func(s *scene) { s.c.Todo, s.c.Num, s.c.Told = nil, last, nil })
	// With the answer: whatever the request and the ids are.
	add(at(m, api.Req{}, 5, nil, 0), nil)
	add(at(m, reserve(3), 5, ids(0, 2, 64), 0), func(s *scene) { s.c.Todo = nil })
	add(at(m, api.Req{Kind: 99}, 5, ids(54), 0), func(s *scene) { s.c.Num = last - 1 })
	for held := 1; held <= 3; held++ {
		add(at(m, api.Req{}, 4, ids(0, 3, 54), held), nil)
		add(at(m, ask(5), 4, ids(4, 5, 6), held), func(s *scene) { s.c.Resp, s.c.Todo = api.Resp{Err: api.ErrBusy, Id: 5}, nil })
	}
	for held := range 4 {
		phase := api.PhaseLock
		if held == 3 {
			phase = api.PhaseDo
		}
		add(at(m, fill(0, 1), phase, ids(0, 60, 61), held), nil)
		add(at(m, waste(3, 1), phase, ids(3, 60, 61), held), func(s *scene) { s.c.Todo, s.c.Told, s.c.Num = nil, nil, 0 })
		add(at(m, release(54, 5, 0), phase, ids(0, 5, 54), held), func(s *scene) { s.c.Resp = api.Resp{N: 9} })
		add(at(m, reserve(60, 0, 5), phase, ids(0, 5, 60), held), nil)
		if held < 3 {
			add(at(m, reserve(3, 54, 8), phase, ids(3, 8, 54), held), nil) // the last one is another arm's, and was not looked at
		}
		if held > 0 {
			add(at(m, reserve(8, 3, 60), 2, ids(3, 8, 60), held), nil)
			add(at(m, reserve(8, 54, 3), 2, ids(3, 8, 54), held), nil) // of the last one it is to be seen
		}
	}
	add(at(m, reserve(54, 62), 2, ids(54, 62), 1), nil)
	add(at(m, reserve(54, 62), 1, ids(54, 62), 0), nil)
	add(at(m, free(), 1, ids(0, 1, 55, 60, 61, 62), 4), nil)
	add(at(m, drop(), 3, ids(55), 1), nil)
	add(at(m, ask(54), 1, ids(54), 0), nil)
	// Without ids.
	for _, r := range odds() {
		add(at(m, r, 3, nil, 0), nil)
	}
	add(at(after(lab()), free(), 3, nil, 0), nil)
	add(at(after(lab()), drop(), 3, nil, 0), nil)
	add(at(with(m, 1, from(8, 40)...), reserve(3), 3, nil, 0), nil)
	// Mutexes of others, beside its own.
	add(at(m, fill(0, 1), 1, ids(0, 60, 61), 1), func(s *scene) { s.t[60], s.t[61], s.t[2] = 2, 3, 8 })
	add(at(m, api.Req{}, 0, nil, 0), func(s *scene) { s.t = slices.Repeat(ids(3), 65) })
	return l
}

// changes are things that may be wrong with a session, and what they do to one.
func changes() map[string]func(s *scene) {
	l := map[string]func(s *scene){
		"the arm 0":               func(s *scene) { s.c.Who = 0 },
		"an arm below":            func(s *scene) { s.c.Who = -1 },
		"an arm too many":         func(s *scene) { s.c.Who = 4 },
		"no arm of any deck":      func(s *scene) { s.c.Who = 9 },
		"a number below 0":        func(s *scene) { s.c.Num = -1 },
		"the least number":        func(s *scene) { s.c.Num = least },
		"a number too great":      func(s *scene) { s.c.Num = last - len(s.c.Todo) + 1 },
		"the greatest number":     func(s *scene) { s.c.Num = most },
		"ids that are twice":      func(s *scene) { s.c.Ids = append(slices.Clone(s.c.Ids), 63, 63) },
		"ids that fall":           func(s *scene) { s.c.Ids = append(slices.Clone(s.c.Ids), 64, 63) },
		"an id too great":         func(s *scene) { s.c.Ids = append(slices.Clone(s.c.Ids), 65) },
		"an id below 0":           func(s *scene) { s.c.Ids = slices.Concat(ids(-1), s.c.Ids) },
		"the least id":            func(s *scene) { s.c.Ids = slices.Concat(ids(least), s.c.Ids) },
		"the greatest id":         func(s *scene) { s.c.Ids = append(slices.Clone(s.c.Ids), most) },
		"At below 0":              func(s *scene) { s.c.At = -1 },
		"the least At":            func(s *scene) { s.c.At = least },
		"At beyond":               func(s *scene) { s.c.At = len(s.c.Ids) + 1 },
		"the greatest At":         func(s *scene) { s.c.At = most },
		"one more held":           func(s *scene) { s.t[9] = s.c.Who },
		"the last one held":       func(s *scene) { s.t[63] = s.c.Who },
		"a table with a stranger": func(s *scene) { s.t[10] = 9 },
		"a table with less":       func(s *scene) { s.t[10] = -1 },
		"a table too short":       func(s *scene) { s.t = s.t[:64] },
		"a table too long":        func(s *scene) { s.t = append(slices.Clone(s.t), 0) },
		"no table":                func(s *scene) { s.t = nil },
	}
	for i, m := range wrongModels() {
		l[fmt.Sprint("the wrong model ", i)] = func(s *scene) { s.m = m }
	}
	for _, phase := range []int{-1, 7, 8, most, least, 1 << 32, 1<<32 + 1, -7} {
		l[fmt.Sprint("the phase ", phase)] = func(s *scene) { s.c.Phase = phase }
	}
	return l
}

func TestRight(t *testing.T) {
	for i, s := range rightScenes() {
		if !machine.Right(s.m, s.t, s.c) || !rightBook(s.m, s.t, s.c) {
			t.Error(i, s.t, s.c)
		}
	}
	for what, change := range changes() {
		for i, s := range rightScenes() {
			s.t = slices.Clone(s.t)
			if change(&s); machine.Right(s.m, s.t, s.c) {
				t.Error(what, i, s.t, s.c)
			}
		}
	}
}

// TestRightOfTheHeld changes who holds what of Ids, and how many of them there are said to be.
func TestRightOfTheHeld(t *testing.T) {
	for i, s := range rightScenes() {
		for at, id := range s.c.Ids {
			for who := range 3 { // nobody, itself, or another one
				n := scene{s.m, slices.Clone(s.t), s.c}
				n.t[id] = who
				if right := (who == 1) == (at < s.c.At); machine.Right(n.m, n.t, n.c) != right {
					t.Error(i, at, who, n.t, n.c)
				}
			}
		}
		for at := -1; at < len(s.c.Ids)+2; at++ {
			n := s
			n.c.At = at
			if machine.Right(n.m, n.t, n.c) != (at == s.c.At) {
				t.Error(i, at, n.t, n.c)
			}
		}
		for who := 2; who <= 3; who++ { // another arm holds nothing of that, or is between two requests
			n := s
			n.c.Who = who
			if machine.Right(n.m, n.t, n.c) != rightBook(n.m, n.t, n.c) {
				t.Error(i, who, n.t, n.c)
			}
		}
	}
}

// TestRightByPhase breaks the conditions of each phase one by one.
func TestRightByPhase(t *testing.T) {
	m := busy()
	wrong := func(what string, s scene, do func(s *scene)) {
		t.Helper()
		if do != nil {
			do(&s)
		}
		if machine.Right(s.m, s.t, s.c) || rightBook(s.m, s.t, s.c) {
			t.Error(what, s.t, s.c)
		}
	}
	wrong("rest with ids", at(m, api.Req{}, 0, ids(3), 0), nil)
	wrong("rest with what is held", at(m, api.Req{}, 0, ids(3), 1), nil)
	wrong("rest with nothing to do", at(m, api.Req{}, 0, nil, 0), func(s *scene) { s.c.Todo = nil })
	wrong("end with something to do", at(m, api.Req{}, 6, nil, 0), nil)
	wrong("end with ids", at(m, api.Req{}, 6, ids(3), 0), func(s *scene) { s.c.Todo = nil })
	wrong("end with what is held", at(m, api.Req{}, 6, ids(3), 1), func(s *scene) { s.c.Todo = nil })
	wrong("tell with what is held", at(m, ask(3), 5, ids(3), 1), nil)
	wrong("tell with some of that", at(m, ask(3), 5, ids(3, 4), 1), nil)
	wrong("free with nothing held", at(m, ask(3), 4, ids(3), 0), nil)
	wrong("free without ids", at(m, ask(3), 4, nil, 0), nil)
	wrong("lock of nothing", at(m, drop(), 1, nil, 0), func(s *scene) { s.m = after(lab()) })
	wrong("lock of what is refused", at(m, api.Req{}, 1, nil, 0), nil)
	wrong("lock with all held", at(m, ask(3), 1, ids(3), 1), nil)
	wrong("lock with all held", at(m, fill(0, 1), 1, ids(0, 60, 61), 3), nil)
	wrong("look with nothing held", at(m, reserve(3), 2, ids(3), 0), nil)
	wrong("do with one not held", at(m, ask(3), 3, ids(3), 0), nil)
	wrong("do with one not held", at(m, fill(0, 1), 3, ids(0, 60, 61), 2), nil)
	for _, r := range reqs(release(3, 5), move(0, 1, 1), fill(0, 1), take(56), ask(3), since(3, 0), free(), drop(), api.Req{}, api.Req{Kind: 11}) {
		l := machine.Ids(m, 1, r)
		wrong("a look of no reserving", at(m, r, 2, l, len(l)), nil)
		wrong("a look of no reserving", at(m, r, 2, l, min(1, len(l))), nil)
	}
	// Other ids than the request's.
	for _, r := range reqs(fill(0, 1), release(0, 60), reserve(0, 60, 61, 62), reserve(0, 61), ask(0), drop(), free(), api.Req{}, reserve(0, 0, 60, 61), fill(3, 1), fill(0, 0)) {
		for held := range 4 {
			l := ids(0, 60, 61)
			if r.Kind == api.ReqFill && r.A == 0 && r.Vol != 0 {
				l = ids(0, 60)
			}
			for phase := api.PhaseLock; phase <= api.PhaseDo; phase++ {
				wrong("other ids", at(m, r, phase, l, min(held, len(l))), nil)
			}
		}
	}
	wrong("ids of too much", at(with(m, 1, from(8, 40)...), reserve(3), 1, ids(3), 0), nil)
	wrong("ids of too much", at(with(m, 1, from(8, 40)...), reserve(3), 2, ids(3), 1), nil)
	wrong("ids of too much", at(with(m, 1, from(8, 40)...), reserve(3), 3, ids(3), 1), nil)
	wrong("no ids", at(m, ask(3), 3, nil, 0), nil)
	wrong("no ids", at(m, reserve(3), 3, nil, 0), nil)
	wrong("less than it owns", at(m, free(), 3, ids(0, 1, 55, 60, 61), 5), nil)
	wrong("another tip", at(m, drop(), 3, ids(56), 1), nil)
	// What is another arm's, and was looked at.
	for foe := range 3 {
		l := ids(3, 8, 60)
		m := with(m, 3, l[foe])
		for held := range 4 {
			for phase, looked := range map[int]int{api.PhaseLock: held, api.PhaseLook: held - 1, api.PhaseDo: held} {
				s := at(m, reserve(60, 3, 8), phase, l, held)
				ok := looked <= foe && (phase == api.PhaseLock && held < 3 || phase == api.PhaseLook && held > 0 || phase == api.PhaseDo && held == 3)
				if machine.Right(s.m, s.t, s.c) != ok {
					t.Error(foe, held, phase)
				}
			}
		}
	}
}

// rightBook tells whether a session is right beside a model and a table: condition by condition, as the chapter has them.
func rightBook(m api.Model, t []int, c api.Mach) bool {
	if !model.Right(m) || len(t) != len(m.Owners) || slices.Min(t) < 0 || slices.Max(t) > 8 {
		return false
	}
	if c.Who < 1 || c.Who > m.Deck.Arms || c.Num < 0 || c.Num > last || c.Num+len(c.Todo) > last || c.At < 0 || c.At > len(c.Ids) {
		return false
	}
	holds := map[int]int{}
	for i, id := range c.Ids {
		if id < 0 || id >= len(t) || i > 0 && id <= c.Ids[i-1] {
			return false
		}
		if i < c.At {
			holds[id] = c.Who
		}
	}
	for id, who := range t {
		if (who == c.Who) != (holds[id] == c.Who) {
			return false
		}
	}
	looked := c.At
	switch c.Phase {
	case 0:
		return c.At == 0 && len(c.Ids) == 0 && len(c.Todo) > 0
	case 6:
		return c.At == 0 && len(c.Ids) == 0 && len(c.Todo) == 0
	case 5:
		return c.At == 0
	case 4:
		return c.At >= 1
	case 1:
		if c.At == len(c.Ids) {
			return false
		}
	case 2:
		looked--
		if c.Req.Kind != api.ReqReserve || c.At < 1 {
			return false
		}
	case 3:
		if c.At != len(c.Ids) {
			return false
		}
	default:
		return false
	}
	if !same(c.Ids, idsBook(m, c.Who, c.Req)) {
		return false
	}
	for _, id := range c.Ids[:looked] {
		if o := m.Owners[id]; c.Req.Kind == api.ReqReserve && o != 0 && o != c.Who {
			return false
		}
	}
	return true
}

// idsBook is the ids of a request of an arm of a right model's deck.
func idsBook(m api.Model, who int, r api.Req) []int {
	var own []int
	more := 0 // what would be owned besides
	for id, o := range m.Owners {
		if o == who {
			own = append(own, id)
		} else if r.Kind == api.ReqReserve && slices.Contains(r.Ids, id) {
			more++
		}
	}
	if want.Check(m.Deck, r).Err != api.OK || r.Kind == api.ReqReserve && len(own)+more > 40 {
		return nil
	}
	return want.Locks(m.Deck, r, own, model.Hand(m, who))
}

// P20.2

func TestWants(t *testing.T) {
	for i, c := range []struct {
		phase int
		ids   []int
		at    int
		want  int
	}{
		{1, ids(3, 5, 9), 0, 3}, {1, ids(3, 5, 9), 1, 5}, {1, ids(3, 5, 9), 2, 9}, {1, ids(3, 5, 9), 3, -1}, {1, ids(3, 5, 9), 4, -1}, {1, ids(3, 5, 9), -1, -1}, {1, ids(3, 5, 9), most, -1}, {1, ids(3, 5, 9), least, -1}, {1, ids(3, 5, 9), 1 << 32, -1}, {1, nil, 0, -1}, {1, ids(), 0, -1}, {1, nil, -1, -1}, {1, ids(0), 0, 0}, {1, ids(most), 0, most}, {1, ids(9, -7), 1, -7}, {1, ids(least), 0, least},
	} {
		if got := machine.Wants(api.Mach{Who: 1, Phase: c.phase, Ids: c.ids, At: c.at}); got != c.want {
			t.Error(i, got)
		}
	}
	for _, phase := range []int{0, 2, 3, 4, 5, 6, 7, -1, most, least, 1<<32 + 1} {
		for at := range 3 {
			if got := machine.Wants(api.Mach{Who: 1, Phase: phase, Ids: ids(3, 5, 9), At: at}); got != -1 {
				t.Error(phase, at, got)
			}
		}
	}
}

func TestMay(t *testing.T) {
	for i, c := range []struct {
		ids  []int
		at   int
		want bool
	}{
		{ids(3, 5, 9), 0, true}, {ids(3, 5, 9), 1, false}, {ids(3, 5, 9), 2, false}, {ids(3, 5, 9), 3, false}, {ids(3, 5, 9), -1, false}, {ids(3, 5, 9), most, false}, {ids(3, 5, 9), least, false}, {nil, 0, false}, {ids(0), 0, true}, {ids(9), 0, false}, {ids(8), 0, true}, {ids(7), 0, false}, {ids(4), 0, false}, {ids(10), 0, false}, {ids(-1), 0, false}, {ids(most), 0, false}, {ids(least), 0, false}, {ids(1 << 32), 0, false}, {ids(6, 6), 1, true},
	} {
		// 5 is another arm's, 7 its own, 9 of no arm, 4 below 0.
		table := ids(0, 0, 0, 0, -1, 2, 0, 1, 0, 9)
		if got := machine.May(table, api.Mach{Who: 1, Phase: 1, Ids: c.ids, At: c.at}); got != c.want {
			t.Error(i, got)
		}
	}
	for _, phase := range []int{0, 2, 3, 4, 5} {
		for _, table := range [][]int{nil, {}, {2, 2}, {9}, {0}} {
			if !machine.May(table, api.Mach{Phase: phase}) || !machine.May(table, api.Mach{Who: -5, Phase: phase, Ids: ids(7, 1), At: -9, Num: -3}) {
				t.Error(phase, table)
			}
		}
	}
	for _, phase := range []int{6, 7, 8, -1, -2, most, least, 1 << 32, 1<<32 + 1} {
		if machine.May(ids(0, 0), api.Mach{Who: 1, Phase: phase, Ids: ids(0), Todo: reqs(free())}) {
			t.Error(phase)
		}
	}
	if machine.May(nil, api.Mach{Phase: 1, Ids: ids(0)}) || machine.May(ids(0), api.Mach{Phase: 1}) {
		t.Error("none")
	}
}

// seen is what is to be seen of a step: the kind of event, the phase behind it, At there, and the mutexes that the arm holds.
type seen struct {
	event, phase, at int
	held             []int
}

// alone has a session do a request step by step, and holds each step against what is to be seen; it tells the model behind it.
func alone(t *testing.T, m api.Model, who int, r api.Req, l []int, told api.Resp, steps ...seen) api.Model {
	t.Helper()
	locks, c, was := table(4, 2, 53), machine.New(who, reqs(r)), fmt.Sprint(m)
	for i, s := range steps {
		var event int
		var next []int
		m, next, c, event = machine.Step(m, locks, c)
		left, answer, ids, req := 0, told, l, r
		if i < slices.IndexFunc(steps, func(s seen) bool { return s.event == api.EvDo }) {
			answer = api.Resp{}
			if fmt.Sprint(m) != was {
				t.Error(r, i, "the model", m)
			}
		}
		if s.phase == api.PhaseEnd {
			answer, ids, req = api.Resp{}, nil, api.Req{}
			left = 1
		}
		mach := api.Mach{Who: who, Phase: s.phase, Num: 1, Req: req, Ids: ids, At: s.at, Resp: answer, Told: slices.Repeat([]api.Resp{told}, left)}
		held := table(who, s.held...)
		held[2], held[53] = 4, 4
		if event != s.event || !same(c, mach) || !slices.Equal(next, held) {
			t.Error(r, i, event, c, "for", s.event, mach, next)
		}
		locks = next
	}
	return m
}

func TestStepOfEach(t *testing.T) {
	const call, did, tell, none = api.EvCall, api.EvDo, api.EvTell, 0
	m := busy()
	held := func(l ...int) []int { return l }
	// Without ids: called, done, told.
	short := []seen{{call, 3, 0, nil}, {did, 5, 0, nil}, {tell, 6, 0, nil}}
	for _, r := range odds() {
		if next := alone(t, m, 1, r, nil, want.Check(lab(), r), short...); !same(next, m) {
			t.Error(r, "changed the model")
		}
	}
	bare := after(lab())
	alone(t, bare, 1, free(), nil, api.Resp{}, short...)
	alone(t, bare, 2, drop(), nil, api.Resp{Err: api.ErrHand}, short...)
	alone(t, with(bare, 3, from(3, 40)...), 3, reserve(0), nil, api.Resp{Err: api.ErrLimit}, short...)
	// One id, and several; what the model refuses, too.
	one := func(id int) []seen {
		return []seen{{call, 1, 0, nil}, {none, 3, 1, held(id)}, {did, 4, 1, held(id)}, {none, 5, 0, nil}, {tell, 6, 0, nil}}
	}
	alone(t, m, 1, ask(0), ids(0), api.Resp{N: 30, Ver: 2}, one(0)...)
	alone(t, m, 3, ask(54), ids(54), api.Resp{N: 80}, one(54)...)
	alone(t, m, 2, since(0, 1), ids(0), api.Resp{Ver: 2, List: []api.Change{{Ver: 2, By: 1, N: -20}}}, one(0)...)
	alone(t, m, 2, since(0, 3), ids(0), api.Resp{Err: api.ErrArg}, one(0)...)
	alone(t, m, 2, release(7), ids(7), api.Resp{N: 2}, one(7)...)
	alone(t, m, 2, release(0), ids(0), api.Resp{Err: api.ErrOwner, Id: 0}, one(0)...)
	alone(t, m, 1, drop(), ids(55), api.Resp{Id: 55}, one(55)...)
	three := func(a, b, c int) []seen {
		return []seen{{call, 1, 0, nil}, {none, 1, 1, held(a)}, {none, 1, 2, held(a, b)}, {none, 3, 3, held(a, b, c)}, {did, 4, 3, held(a, b, c)}, {none, 4, 2, held(a, b)}, {none, 4, 1, held(a)}, {none, 5, 0, nil}, {tell, 6, 0, nil}}
	}
	alone(t, m, 1, fill(0, 5), ids(0, 60, 61), api.Resp{N: 5, Ver: 3}, three(0, 60, 61)...)
	alone(t, m, 1, fill(0, 71), ids(0, 60, 61), api.Resp{Err: api.ErrRoom}, three(0, 60, 61)...)
	alone(t, m, 2, waste(1, 5), ids(1, 61, 62), api.Resp{Err: api.ErrOwner, Id: 1}, three(1, 61, 62)...)
	alone(t, m, 3, move(6, 7, 5), ids(6, 7, 64), api.Resp{Err: api.ErrOwner, Id: 6}, three(6, 7, 64)...)
	alone(t, m, 2, move(6, 7, 5), ids(6, 7, 64), api.Resp{Err: api.ErrHand}, three(6, 7, 64)...)
	alone(t, m, 2, free(), ids(6, 7, 64), api.Resp{N: 3}, three(6, 7, 64)...)
	alone(t, m, 1, release(62, 1, 61), ids(1, 61, 62), api.Resp{N: 3}, three(1, 61, 62)...)
	alone(t, with(m, 2, 59, 61, 62), 2, take(59), ids(59, 61, 62), api.Resp{Id: 59}, three(59, 61, 62)...)
	// What looks.
	next := alone(t, m, 1, reserve(60, 3), ids(3, 60), api.Resp{N: 7}, []seen{{call, 1, 0, nil}, {none, 2, 1, held(3)}, {none, 1, 1, held(3)}, {none, 2, 2, held(3, 60)}, {none, 3, 2, held(3, 60)}, {did, 4, 2, held(3, 60)}, {none, 4, 1, held(3)}, {none, 5, 0, nil}, {tell, 6, 0, nil}}...)
	if next.Owners[3] != 1 || next.Owners[60] != 1 || !same(next, with(m, 1, 3)) {
		t.Error("reserved", next.Owners)
	}
	alone(t, m, 3, reserve(5), ids(5), api.Resp{N: 3}, seen{call, 1, 0, nil}, seen{none, 2, 1, held(5)}, seen{none, 3, 1, held(5)}, seen{did, 4, 1, held(5)}, seen{none, 5, 0, nil}, seen{tell, 6, 0, nil})
}

// TestWayBack has a part of another arm's at the first, a middle and the last id.
func TestWayBack(t *testing.T) {
	const call, did, tell, none = api.EvCall, api.EvDo, api.EvTell, 0
	m := busy()
	held := func(l ...int) []int { return l }
	busyAt := func(id int) api.Resp { return api.Resp{Err: api.ErrBusy, Id: id} }
	for i, next := range []api.Model{
		alone(t, m, 1, reserve(8, 9, 6), ids(6, 8, 9), busyAt(6), []seen{{call, 1, 0, nil}, {none, 2, 1, held(6)}, {did, 4, 1, held(6)}, {none, 5, 0, nil}, {tell, 6, 0, nil}}...),
		alone(t, m, 1, reserve(8, 5, 7), ids(5, 7, 8), busyAt(7), []seen{{call, 1, 0, nil}, {none, 2, 1, held(5)}, {none, 1, 1, held(5)}, {none, 2, 2, held(5, 7)}, {did, 4, 2, held(5, 7)}, {none, 4, 1, held(5)}, {none, 5, 0, nil}, {tell, 6, 0, nil}}...),
		alone(t, m, 1, reserve(64, 8, 0), ids(0, 8, 64), busyAt(64), []seen{{call, 1, 0, nil}, {none, 2, 1, held(0)}, {none, 1, 1, held(0)}, {none, 2, 2, held(0, 8)}, {none, 1, 2, held(0, 8)}, {none, 2, 3, held(0, 8, 64)}, {did, 4, 3, held(0, 8, 64)}, {none, 4, 2, held(0, 8)}, {none, 4, 1, held(0)}, {none, 5, 0, nil}, {tell, 6, 0, nil}}...),
		alone(t, m, 3, reserve(0), ids(0), busyAt(0), []seen{{call, 1, 0, nil}, {none, 2, 1, held(0)}, {did, 4, 1, held(0)}, {none, 5, 0, nil}, {tell, 6, 0, nil}}...),
		// Of several the first one is told; what is behind it is not locked.
		alone(t, m, 3, reserve(61, 60, 9, 1), ids(1, 9, 60, 61), busyAt(1), []seen{{call, 1, 0, nil}, {none, 2, 1, held(1)}, {did, 4, 1, held(1)}, {none, 5, 0, nil}, {tell, 6, 0, nil}}...),
	} {
		if !same(next, m) {
			t.Error(i, "a refusal changes the model")
		}
	}
}

// TestStepOfMany has more than one request to do, and answers that were told.
func TestStepOfMany(t *testing.T) {
	m, locks := busy(), table(1)
	told := []api.Resp{{N: 7}}
	c := api.Mach{Who: 1, Phase: 0, Num: 41, Todo: reqs(drop(), ask(0), free()), Told: told}
	_, _, c, event := machine.Step(m, locks, c)
	if event != api.EvCall || !same(c, api.Mach{Who: 1, Phase: 1, Num: 42, Req: drop(), Ids: ids(55), Todo: reqs(ask(0), free()), Told: told}) {
		t.Error(event, c)
	}
	c = api.Mach{Who: 1, Phase: 5, Num: 42, Req: drop(), Ids: ids(55), Resp: api.Resp{Id: 55}, Todo: reqs(ask(0)), Told: told}
	_, _, c, event = machine.Step(m, locks, c)
	if event != api.EvTell || !same(c, api.Mach{Who: 1, Phase: 0, Num: 42, Todo: reqs(ask(0)), Told: []api.Resp{{N: 7}, {Id: 55}}}) {
		t.Error(event, c)
	}
	// What stands in Req and Resp between two requests is not kept, but for the answer till there is another one.
	c = api.Mach{Who: 1, Phase: 0, Num: last - 1, Req: fill(3, 4), Resp: api.Resp{N: 9}, Todo: reqs(ask(2))}
	_, _, c, event = machine.Step(m, locks, c)
	if event != api.EvCall || c.Num != last || !same(c.Req, ask(2)) || !slices.Equal(c.Ids, ids(2)) || len(c.Todo) > 0 || c.Phase != 1 {
		t.Error(event, c)
	}
}

// noStep holds what Step answers against what it must where there is no step.
func noStep(t *testing.T, what any, s scene) {
	t.Helper()
	m, locks, c, event := machine.Step(s.m, s.t, s.c)
	if event != -1 || !same(m, s.m) || !same(locks, s.t) || !same(c, s.c) {
		t.Error(what, event, c)
	}
}

func TestNoStep(t *testing.T) {
	// Beside what is not right.
	for what, change := range changes() {
		for _, s := range rightScenes() {
			s.t = slices.Clone(s.t)
			change(&s)
			noStep(t, what, s)
		}
	}
	// In the end, and where another one holds the mutex.
	m := busy()
	for _, s := range rightScenes() {
		if s.c.Phase == api.PhaseEnd {
			noStep(t, "end", s)
		}
	}
	for _, other := range []int{2, 3, 8} {
		for held, id := range []int{0, 60, 61} {
			s := at(m, fill(0, 1), 1, ids(0, 60, 61), held)
			s.t[id] = other
			noStep(t, "held by another one", s)
			s = at(m, reserve(60, 0, 61), 1, ids(0, 60, 61), held)
			s.t[id] = other
			noStep(t, "held by another one", s)
		}
	}
	noStep(t, "7", at(m, ask(7), 1, ids(7), 0))
	noStep(t, "64", at(m, waste(8, 1), 1, ids(8, 64), 1))
	noStep(t, "nothing", scene{})
	noStep(t, "no model", scene{t: ids(0), c: machine.New(1, reqs(free()))})
}

// stepBook is what a step of a right session that may step leads to: line by line, as the chapter has it.
func stepBook(m api.Model, t []int, c api.Mach) (api.Model, []int, api.Mach, int) {
	t = slices.Clone(t)
	on := func() {
		c.Phase = api.PhaseDo
		if c.At < len(c.Ids) {
			c.Phase = api.PhaseLock
		}
	}
	event := 0
	switch c.Phase {
	case api.PhaseRest:
		c.Req, c.Todo, c.Num = c.Todo[0], c.Todo[1:], c.Num+1
		c.Ids = idsBook(m, c.Who, c.Req)
		on()
		event = api.EvCall
	case api.PhaseLock:
		t[c.Ids[c.At]] = c.Who
		c.At++
		if c.Req.Kind == api.ReqReserve {
			c.Phase = api.PhaseLook
		} else {
			on()
		}
	case api.PhaseLook:
		if id := c.Ids[c.At-1]; m.Owners[id] != 0 && m.Owners[id] != c.Who {
			c.Phase, c.Resp = api.PhaseFree, api.Resp{Err: api.ErrBusy, Id: id}
			event = api.EvDo
		} else {
			on()
		}
	case api.PhaseDo:
		m, c.Resp = model.Do(m, c.Who, c.Req)
		c.Phase = api.PhaseTell
		if c.At > 0 {
			c.Phase = api.PhaseFree
		}
		event = api.EvDo
	case api.PhaseFree:
		c.At--
		t[c.Ids[c.At]] = 0
		if c.At == 0 {
			c.Phase = api.PhaseTell
		}
	case api.PhaseTell:
		c.Told = append(slices.Clone(c.Told), c.Resp)
		c.Req, c.Ids, c.Resp, c.Phase = api.Req{}, nil, api.Resp{}, api.PhaseRest
		if len(c.Todo) == 0 {
			c.Phase = api.PhaseEnd
		}
		event = api.EvTell
	}
	return m, t, c, event
}

// checkStep holds a step against what it must be, and tells what it leads to.
func checkStep(t *testing.T, s scene) (scene, int) {
	t.Helper()
	m, locks, c, event := machine.Step(s.m, s.t, s.c)
	bm, bt, bc, be := stepBook(s.m, s.t, s.c)
	if event != be || !slices.Equal(locks, bt) || !same(c, bc) || !same(m, bm) {
		t.Fatal(s.c, "led to", event, c, "not", be, bc)
	}
	if !machine.Right(m, locks, c) {
		t.Fatal("not right", s.c, c)
	}
	return scene{m, locks, c}, event
}

func TestStepOfScenes(t *testing.T) {
	for _, s := range rightScenes() {
		for machine.May(s.t, s.c) {
			s, _ = checkStep(t, s)
		}
		if s.c.Phase != api.PhaseEnd && (s.c.Phase != api.PhaseLock || s.t[machine.Wants(s.c)] == 0) {
			t.Error("stays", s.c)
		}
	}
}

// R3

// What lies in the room behind a list's end.
var (
	oddReq  = api.Req{Kind: -7}
	oddResp = api.Resp{N: -7}
)

// roomy is a list with room behind its end, and something in it.
func roomy[T any](l []T, odd T) []T { return append(slices.Clone(l), odd, odd)[:len(l)] }

// whole is a list with two more in the room behind its end.
func whole[T any](l []T) []T { return l[:len(l)+2] }

// text is all of a scene made roomy.
func (s scene) text() string {
	return fmt.Sprint(s.m, s.c, whole(s.m.Owners), whole(s.m.Stock.Cells), whole(s.m.Stock.Tips), whole(s.t), whole(s.c.Ids), whole(s.c.Todo), whole(s.c.Told), whole(s.c.Req.Ids))
}

// roomyScene is a scene with room behind its lists.
func roomyScene(s scene) scene {
	s.m.Owners, s.m.Stock.Cells, s.m.Stock.Tips = roomy(s.m.Owners, -7), roomy(s.m.Stock.Cells, api.Cell{Ver: -7}), roomy(s.m.Stock.Tips, api.Tip{By: -7})
	s.t, s.c.Ids, s.c.Todo, s.c.Told, s.c.Req.Ids = roomy(s.t, -7), roomy(s.c.Ids, -7), roomy(s.c.Todo, oddReq), roomy(s.c.Told, oddResp), roomy(s.c.Req.Ids, -7)
	return s
}

func TestKeepsArguments(t *testing.T) {
	for i, s := range rightScenes() {
		s = roomyScene(s)
		was := s.text()
		machine.Right(s.m, s.t, s.c)
		machine.Wants(s.c)
		machine.May(s.t, s.c)
		l := machine.Ids(s.m, s.c.Who, s.c.Req)
		for j := range l[:cap(l)] {
			l[:cap(l)][j] = 55
		}
		machine.New(1, s.c.Todo)
		// All that comes of it: each step may leave memory of the last one in place, but writes into none.
		for next := s; machine.May(next.t, next.c); {
			behind := next
			behind.m, behind.t, behind.c, _ = machine.Step(next.m, next.t, next.c)
			next = behind
		}
		if s.text() != was {
			t.Error(i, "changed", s.c)
		}
	}
}

// TestKeepsBranches goes on from one session in two ways: what the one has is not written into by the other.
func TestKeepsBranches(t *testing.T) {
	m, locks := busy(), table(1)
	c := machine.New(1, reqs(ask(0), ask(1), ask(2), ask(3)))
	for c.Phase != api.PhaseEnd {
		was := fmt.Sprint(c)
		_, _, one, _ := machine.Step(m, locks, c)
		text := fmt.Sprint(one)
		other := c
		other.Resp, other.Req = api.Resp{Err: 99, Id: 98, N: 97}, ask(5)
		machine.Step(m, locks, other)
		if fmt.Sprint(one) != text || fmt.Sprint(c) != was {
			t.Fatal("changed", one, text)
		}
		m, locks, c, _ = machine.Step(m, locks, c)
	}
}

// P20.3

// oneOf is one of n numbers from a first one on, one that the arm owns rather than others.
func oneOf(r *rand.Rand, m api.Model, who, first, n int) int {
	var own []int
	for id := first; id < first+n; id++ {
		if m.Owners[id] == who {
			own = append(own, id)
		}
	}
	if len(own) > 0 && r.Intn(4) > 0 {
		return own[r.Intn(len(own))]
	}
	return first + r.Intn(n)
}

// anyReq is something that an arm may ask for: mostly the next thing on its way to a volume that is moved.
func anyReq(r *rand.Rand, m api.Model, who int) api.Req {
	a, b := oneOf(r, m, who, 0, 10), oneOf(r, m, who, 0, 10)
	on := []api.Req{fill(a, 1+r.Intn(40)), waste(a, 1+r.Intn(40)), move(a, b, 1+r.Intn(40))}[r.Intn(3)]
	if model.Hand(m, who) < 0 {
		on = take(oneOf(r, m, who, 55, 5))
	}
	need := want.Must(m.Deck, on)
	lacks := slices.ContainsFunc(need, func(id int) bool { return m.Owners[id] != who })
	some := r.Perm(65)[:1+r.Intn(4)]
	switch n := r.Intn(20); {
	case n < 11 && lacks && r.Intn(4) > 0:
		return reserve(need...)
	case n < 11:
		return on
	case n < 13:
		return reserve(some...)
	case n < 14:
		return release(oneOf(r, m, who, 0, 65))
	case n < 15:
		return free()
	case n < 16:
		return drop()
	case n < 17:
		return ask(a)
	case n < 18:
		return since(a, r.Intn(5)-1)
	case n < 19:
		return take(55 + r.Intn(5))
	}
	return odds()[r.Intn(len(odds()))]
}

// anyTodo is requests of an arm that has the deck alone.
func anyTodo(r *rand.Rand, m api.Model, who, n int) []api.Req {
	var l []api.Req
	for range n {
		q := anyReq(r, m, who)
		l = append(l, q)
		m, _ = model.Do(m, who, q)
	}
	return l
}

// TestAlone has whole sessions alone on the deck.
func TestAlone(t *testing.T) {
	r := rand.New(rand.NewSource(1))
	done := map[int]int{}
	for i := range 150 {
		who := 1 + r.Intn(3)
		first := after(lab())
		todo := anyTodo(r, first, who, i%25)
		var l []api.Asked
		steps, m := 0, first
		for _, q := range todo {
			looks := q.Kind == api.ReqReserve
			steps += 1 + len(plan.Make(machine.Ids(m, who, q), looks))
			if got := len(idsBook(m, who, q)); plan.Steps(got, looks) != len(plan.Make(machine.Ids(m, who, q), looks)) {
				t.Fatal(i, q, got)
			}
			m, _ = model.Do(m, who, q)
			l = append(l, asked(who, q))
		}
		right, told := model.Run(first, l)
		s, n := scene{first, table(who), machine.New(who, todo)}, 0
		for ; s.c.Phase != api.PhaseEnd && n <= steps; n++ {
			if !machine.May(s.t, s.c) {
				t.Fatal("may not", s.c)
			}
			s, _ = checkStep(t, s)
		}
		if n != steps || !same(s.c, api.Mach{Who: who, Phase: 6, Num: len(todo), Told: told}) || !same(s.m, right) || !slices.Equal(s.t, table(who)) {
			t.Fatal(i, n, steps, s.c)
		}
		noStep(t, "end", s)
		for j, a := range told {
			if a.Err == api.OK {
				done[todo[j].Kind]++
			}
		}
	}
	for kind := 1; kind <= 10; kind++ {
		if done[kind] < 3 {
			t.Error("too little is done", done)
		}
	}
}

// TestSteps has as many steps as the chapter's examples.
func TestSteps(t *testing.T) {
	for i, c := range []struct {
		todo []api.Req
		want int
	}{{nil, 0}, {reqs(ask(0)), 5}, {reqs(free()), 3}, {reqs(reserve(3)), 6}, {reqs(reserve(3, 4)), 9}, {reqs(reserve(from(0, 16)...), free()), 1 + 50 + 1 + 34}, {reqs(api.Req{}, reserve(3), release(3), free()), 3 + 6 + 5 + 3}} {
		s, n := scene{after(lab()), table(1), machine.New(2, c.todo)}, 0
		for ; machine.May(s.t, s.c); n++ {
			s, _ = checkStep(t, s)
		}
		if n != c.want || s.c.Phase != api.PhaseEnd {
			t.Error(i, n)
		}
	}
}

// crowd is several sessions beside one model and one table.
type crowd struct {
	m     api.Model
	t     []int
	machs []api.Mach
}

// right looks whether all sessions are right, and nobody holds what is nobody's to hold.
func (w *crowd) right(t *testing.T) {
	t.Helper()
	held := 0
	for _, c := range w.machs {
		if !machine.Right(w.m, w.t, c) {
			t.Fatal("not right", c, w.t)
		}
		held += c.At
	}
	for _, who := range w.t {
		if who != 0 {
			held--
		}
	}
	if held != 0 {
		t.Fatal("held", w.t)
	}
}

// step has a session step; where that is an EvDo, its answer and the model must be the model's own, of the whole request.
func (w *crowd) step(t *testing.T, i int) int {
	t.Helper()
	was := w.machs[i]
	right, answer := model.Do(w.m, was.Who, was.Req)
	s, event := checkStep(t, scene{w.m, w.t, was})
	if event == api.EvDo && (!same(s.m, right) || !same(s.c.Resp, answer)) {
		t.Fatal("done", was, s.c.Resp, answer)
	}
	if event != api.EvDo && !same(s.m, w.m) {
		t.Fatal("not done", was)
	}
	w.m, w.t, w.machs[i] = s.m, s.t, s.c
	return event
}

// TestMixed mixes the steps of several sessions in many ways.
func TestMixed(t *testing.T) {
	r := rand.New(rand.NewSource(2))
	busyBacks, waits := 0, 0
	for range 60 {
		first := after(lab())
		w := &crowd{m: first, t: table(1)}
		for who := 1; who <= 3; who++ {
			w.machs = append(w.machs, machine.New(who, anyTodo(r, first, who, r.Intn(6))))
		}
		total := 0
		for _, c := range w.machs {
			total += len(c.Todo)
		}
		var done []api.Asked
		told := make([][]api.Resp, 3)
		for {
			var may []int
			for i, c := range w.machs {
				if machine.May(w.t, c) {
					may = append(may, i)
				} else if c.Phase != api.PhaseEnd {
					waits++
				}
			}
			if len(may) == 0 {
				break
			}
			i := may[r.Intn(len(may))]
			if r.Intn(3) > 0 {
				i = may[0] // some go on further than others
			}
			if event := w.step(t, i); event == api.EvDo {
				c := w.machs[i]
				done = append(done, asked(c.Who, c.Req))
				told[i] = append(told[i], c.Resp)
				if c.Resp.Err == api.ErrBusy {
					busyBacks++
				}
			}
			w.right(t)
		}
		for i, c := range w.machs {
			if c.Phase != api.PhaseEnd || !same(c.Told, told[i]) {
				t.Fatal("end", c)
			}
		}
		end, _ := model.Run(first, done)
		if len(done) != total || !same(end, w.m) || !slices.Equal(w.t, table(1)) {
			t.Fatal("not one after the other", len(done), total)
		}
	}
	if busyBacks < 10 || waits < 100 {
		t.Error("too little happens", busyBacks, waits)
	}
}

// TestSmallMixed goes through all ways to mix the steps of two sessions, as far as they differ.
func TestSmallMixed(t *testing.T) {
	for _, todo := range [][2][]api.Req{
		{reqs(reserve(0, 3)), reqs(reserve(3, 1))}, {reqs(reserve(3), free()), reqs(reserve(3))}, {reqs(ask(0)), reqs(ask(0), free())}, {reqs(reserve(2, 4)), reqs(take(2))}, {reqs(api.Req{}), reqs(reserve(0), release(0))},
	} {
		seen := map[string]struct{}{}
		ends := map[string]struct{}{}
		var on func(w crowd)
		on = func(w crowd) {
			key := fmt.Sprint(w)
			if _, ok := seen[key]; ok {
				return
			}
			seen[key] = struct{}{}
			w.right(t)
			stays := true
			for i := range w.machs {
				if machine.May(w.t, w.machs[i]) {
					next := crowd{w.m, w.t, slices.Clone(w.machs)}
					next.step(t, i)
					on(next)
					stays = false
				}
			}
			if stays {
				if w.machs[0].Phase != api.PhaseEnd || w.machs[1].Phase != api.PhaseEnd {
					t.Fatal("stuck", w)
				}
				ends[key] = struct{}{}
			}
		}
		on(crowd{after(small()), make([]int, 5), []api.Mach{machine.New(1, todo[0]), machine.New(2, todo[1])}})
		if len(ends) == 0 || len(seen) < 10 {
			t.Error("too little", len(seen), len(ends))
		}
	}
}
