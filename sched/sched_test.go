package sched_test

import (
	"fmt"
	"math"
	"math/rand"
	"slices"
	"testing"

	"deckhand/api"
	"deckhand/hist"
	"deckhand/model"
	"deckhand/sched"
	"deckhand/world"
)

const (
	most  = 1<<63 - 1
	least = -1 << 63
	flow  = 1 << 60 // the last step that there may be
)

// ids is a list of numbers, of a short form.
func ids(l ...int) []int { return l }

// bits is the bits of so many nanolitres as microlitres.
func bits(n int) uint64 { return math.Float64bits(float64(n) / 1000) }

// The requests of each kind, in a short form; volumes in nanolitres.
func reserve(l ...int) api.Req { return api.Req{Kind: 1, Ids: l} }
func release(l ...int) api.Req { return api.Req{Kind: 2, Ids: l} }
func free() api.Req            { return api.Req{Kind: 3} }
func move(a, b, n int) api.Req { return api.Req{Kind: 4, A: a, B: b, Vol: bits(n)} }
func fill(a, n int) api.Req    { return api.Req{Kind: 5, A: a, Vol: bits(n)} }
func waste(a, n int) api.Req   { return api.Req{Kind: 6, A: a, Vol: bits(n)} }
func take(a int) api.Req       { return api.Req{Kind: 7, A: a} }
func drop() api.Req            { return api.Req{Kind: 8} }
func ask(a int) api.Req        { return api.Req{Kind: 9, A: a} }
func since(a, ver int) api.Req { return api.Req{Kind: 10, A: a, Ver: ver} }

// reqs is a list of requests, todos one of such lists, of a short form.
func reqs(l ...api.Req) []api.Req      { return l }
func todos(l ...[]api.Req) [][]api.Req { return l }

// same tells whether two things are; what is printed tells nil and empty lists not apart.
func same(a, b any) bool { return fmt.Sprint(a) == fmt.Sprint(b) }

// rails is n lanes that are 9 wide.
func rails(n int) []float64 {
	l := make([]float64, n+1)
	for i := range l {
		l[i] = float64(9 * i)
	}
	return l
}

// lab is a deck of three arms and 65 ids. The wells 0 and 3 cover the lanes 60 and 61, 1 and 4 the lanes 61 and 62, 2 and 5 the lanes 62 and 63; 6 to 53 cover 64, 54 covers 63. The tip 55 covers 60, 56 covers 61, 57 to 59 cover 61 and 62. 60 to 64 are the lanes.
func lab() api.Deck {
	return api.Deck{
		Borders: rails(5),
		Plates:  []api.Plate{{Rows: 2, Cols: 3, X: 4.5, Pitch: 9, Reach: 4.5, Cap: 100, Start: ids(40, 0, 100, 7)}, {Rows: 4, Cols: 12, X: 37, Pitch: 0.5, Cap: 5000}, {Rows: 1, Cols: 1, X: 31, Cap: 90, Start: ids(80)}},
		Racks:   []api.Rack{{Rows: 1, Cols: 2, X: 1, Pitch: 16}, {Rows: 3, Cols: 1, X: 18, Reach: 3}},
		Arms:    3,
	}
}

// small is a deck of two wells (0, 1), a tip (2), two lanes (3, 4) and two arms; the wells cover 3, the tip 4.
func small() api.Deck {
	return api.Deck{Borders: rails(2), Plates: []api.Plate{{Rows: 1, Cols: 2, X: 1, Pitch: 1, Cap: 100, Start: ids(40)}}, Racks: []api.Rack{{Rows: 1, Cols: 1, X: 10}}, Arms: 2}
}

// arms is small with so many arms.
func arms(n int) api.Deck {
	d := small()
	d.Arms = n
	return d
}

// first is a deck's world at first.
func first(d api.Deck, todo [][]api.Req) api.World {
	w, err := world.New(d, todo)
	if err != api.OK {
		panic("a world of the test is refused")
	}
	return w
}

// jobs is what the arms of lab do in the midst of work: some of it clashes.
func jobs() [][]api.Req {
	return todos(reqs(reserve(0, 60, 55), take(55), reserve(61), fill(0, 5), free()), reqs(reserve(60, 3), ask(0), release(3), api.Req{Kind: 99}), reqs(since(0, 0), drop(), reserve(61, 62, 57), take(57)))
}

// anyPicks is n picks, of all sizes.
func anyPicks(r *rand.Rand, n int) []int {
	l := make([]int, n)
	for i := range l {
		l[i] = int(r.Uint64()) >> r.Intn(64)
	}
	return l
}

// place is the place that a pick has among so many, as the chapter has it: what is left of it, from 0 on.
func place(pick, n int) int {
	p := pick % n
	if p < 0 {
		p += n
	}
	return p
}

// onTheWay is worlds of lab on the way from the first step to the last one.
func onTheWay() []api.World {
	r := rand.New(rand.NewSource(7))
	var l []api.World
	w := first(lab(), jobs())
	for !world.Over(w) {
		l = append(l, w)
		may := world.Runnable(w)
		w, _ = world.Step(w, may[r.Intn(len(may))])
	}
	return append(l, w)
}

// wrong are worlds that are not right; they are on the way but for that.
func wrong() []api.World {
	var l []api.World
	for i, do := range []func(w *api.World){
		func(w *api.World) { *w = api.World{} },
		func(w *api.World) { w.Model = api.Model{} },
		func(w *api.World) { w.Model.Owners = w.Model.Owners[:64] },
		func(w *api.World) { w.Machs = w.Machs[:2] },
		func(w *api.World) { w.Machs = w.Machs[1:] },
		func(w *api.World) { w.Locks = make([]int, 64) },
		func(w *api.World) { w.Locks = slices.Repeat(ids(4), 65) },
		func(w *api.World) { w.Now = -1 },
		func(w *api.World) { w.Now = flow + 1 },
		func(w *api.World) { w.Hist = []api.Event{{Kind: 3, Who: 1, Num: 1, At: 1}} },
		func(w *api.World) {
			w.Hist = append(slices.Clone(w.Hist), api.Event{Kind: 1, Who: 4, Num: 1, At: w.Now + 1})
		},
	} {
		for _, w := range onTheWay()[i : i+20] {
			do(&w)
			l = append(l, w)
		}
	}
	return l
}

// P22.1

func TestPick(t *testing.T) {
	three := first(lab(), jobs())
	for _, c := range [][2]int{{0, 1}, {1, 2}, {2, 3}, {3, 1}, {4, 2}, {5, 3}, {-1, 3}, {-2, 2}, {-3, 1}, {-4, 3}, {300, 1}, {302, 3}, {most, 1 + most%3}, {least, 2}, {1 << 32, 2}, {-(1 << 32), 3}} {
		if who, ok := sched.Pick(three, c[0]); who != c[1] || !ok {
			t.Error(c, who, ok)
		}
	}
	// Of those who are runnable, not of all.
	two := first(lab(), todos(nil, reqs(free()), reqs(free())))
	for _, c := range [][2]int{{0, 2}, {1, 3}, {2, 2}, {3, 3}, {-1, 3}, {-2, 2}, {most, 3}, {least, 2}} {
		if who, ok := sched.Pick(two, c[0]); who != c[1] || !ok {
			t.Error(c, who, ok)
		}
	}
	one := first(lab(), todos(nil, nil, reqs(free())))
	for _, pick := range []int{0, 1, -1, 17, most, least} {
		if who, ok := sched.Pick(one, pick); who != 3 || !ok {
			t.Error(pick, who, ok)
		}
	}
	picks := append(ids(0, 1, 2, 3, -1, -2, -3, 999, -999, most, least), anyPicks(rand.New(rand.NewSource(1)), 20)...)
	for i, w := range onTheWay() {
		may := world.Runnable(w)
		for _, pick := range picks {
			who, ok := sched.Pick(w, pick)
			if ok != (len(may) > 0) || ok && who != may[place(pick, len(may))] || !ok && who != 0 {
				t.Error(i, pick, who, ok, may)
			}
		}
		w.Now = flow
		if who, ok := sched.Pick(w, 1); who != 0 || ok {
			t.Error(i, who, ok)
		}
	}
	eight := first(arms(8), slices.Repeat(todos(reqs(ask(0))), 8))
	for _, pick := range picks {
		if who, _ := sched.Pick(eight, pick); who != 1+place(pick, 8) {
			t.Error(pick, who)
		}
	}
}

// nobody are worlds in which nobody is runnable.
func nobody() []api.World {
	l := []api.World{first(lab(), nil), first(arms(1), todos(reqs()))}
	for _, w := range onTheWay() {
		w.Now = flow
		l = append(l, w)
	}
	end, _ := sched.Finish(first(lab(), jobs()))
	return append(append(l, end), wrong()...)
}

func TestNobody(t *testing.T) {
	for i, w := range nobody() {
		for _, pick := range []int{0, 1, -1, most, least} {
			if who, ok := sched.Pick(w, pick); who != 0 || ok {
				t.Error(i, pick, who, ok)
			}
			if got, n := sched.Run(w, ids(pick, 0, pick)); n != 0 || !same(got, w) {
				t.Error(i, pick, n)
			}
		}
		if got, n := sched.Run(w, nil); n != 0 || !same(got, w) {
			t.Error(i, n)
		}
		if got, n := sched.Finish(w); n != 0 || !same(got, w) {
			t.Error(i, n)
		}
	}
}

// runBook is the world behind picks, step by step as the chapter has it, and how many were taken.
func runBook(w api.World, picks []int) (api.World, int) {
	for i, pick := range picks {
		may := world.Runnable(w)
		if len(may) == 0 {
			return w, i
		}
		w, _ = world.Step(w, may[place(pick, len(may))])
	}
	return w, len(picks)
}

func TestRun(t *testing.T) {
	r := rand.New(rand.NewSource(2))
	// One request of an arm that has the deck alone: five steps.
	alone := first(small(), todos(reqs(ask(0))))
	for n := range 9 {
		for _, picks := range [][]int{make([]int, n), anyPicks(r, n), slices.Repeat(ids(most), n), slices.Repeat(ids(least), n)} {
			w, got := sched.Run(alone, picks)
			if got != min(n, 5) || w.Now != min(n, 5) || world.Over(w) != (n >= 5) {
				t.Error(n, got, w.Now)
			}
		}
	}
	if w, n := sched.Run(alone, nil); n != 0 || !same(w, alone) {
		t.Error(n)
	}
	// Who is picked steps: the chapter's example.
	two := first(small(), todos(reqs(free()), reqs(free())))
	if w, n := sched.Run(two, ids(0, -1)); n != 2 || !slices.Equal(w.Hist, []api.Event{{Kind: 1, Who: 1, Num: 1, At: 1}, {Kind: 1, Who: 2, Num: 1, At: 2}}) {
		t.Error(n, w.Hist)
	}
	if w, n := sched.Run(two, ids(-1, -1, 3, 1, 0, 7, 9)); n != 6 || !slices.Equal(hist.Done(w.Hist), []api.Call{{Who: 2, Num: 1}, {Who: 1, Num: 1}}) {
		t.Error(n, w.Hist)
	}
	for i, w := range onTheWay() {
		_, left := sched.Finish(w)
		for j, n := range []int{0, 1, 2, 5, left / 2, left - 1, left, left + 1, left + 30, 200} {
			if i%10 != j && left > 3 {
				continue
			}
			picks := anyPicks(r, max(n, 0))
			got, taken := sched.Run(w, picks)
			right, all := runBook(w, picks)
			if taken != all || !same(got, right) || got.Now != w.Now+taken {
				t.Error(i, n, taken, all)
			}
			if taken < len(picks) && !world.Over(got) {
				t.Error(i, n, taken, "not over")
			}
		}
	}
}

// TestRunExact has just as many picks as there are steps, and one less and more.
func TestRunExact(t *testing.T) {
	r := rand.New(rand.NewSource(3))
	for i := range 10 {
		w, picks := first(lab(), jobs()), anyPicks(r, 300)
		end, steps := sched.Run(w, picks)
		if steps >= 300 || !world.Over(end) {
			t.Fatal(i, steps)
		}
		for n := steps - 2; n <= steps+2; n++ {
			got, taken := sched.Run(w, picks[:n])
			if taken != min(n, steps) || world.Over(got) != (n >= steps) || n >= steps && !same(got, end) {
				t.Error(i, n, taken)
			}
		}
	}
}

// finishBook is the world behind steps of the least arm that is runnable, and how many they were.
func finishBook(w api.World) (api.World, int) {
	for n := 0; ; n++ {
		may := world.Runnable(w)
		if len(may) == 0 {
			return w, n
		}
		w, _ = world.Step(w, slices.Min(may))
	}
}

func TestFinish(t *testing.T) {
	for i, c := range []struct {
		todo [][]api.Req
		want int
	}{{nil, 0}, {todos(nil, reqs()), 0}, {todos(reqs(ask(0))), 5}, {todos(nil, reqs(free(), ask(1))), 8}, {todos(reqs(reserve(3)), reqs(reserve(3))), 6 + 5}, {todos(reqs(free(), free()), reqs(api.Req{})), 9}} {
		if w, n := sched.Finish(first(small(), c.todo)); n != c.want || w.Now != n || !world.Over(w) {
			t.Error(i, n, w.Now)
		}
	}
	for i, w := range onTheWay() {
		right, steps := finishBook(w)
		if got, n := sched.Finish(w); n != steps || !same(got, right) || !world.Over(got) {
			t.Error(i, n, steps)
		}
	}
	// The least arm has all steps, till it waits, or is at its end.
	w, _ := sched.Finish(first(small(), todos(reqs(free(), drop()), reqs(free()))))
	if !slices.Equal(hist.Done(w.Hist), []api.Call{{Who: 1, Num: 1}, {Who: 1, Num: 2}, {Who: 2, Num: 1}}) {
		t.Error(w.Hist)
	}
	// The arm 2 has the mutex: the arm 1 waits.
	w, _ = sched.Run(first(small(), todos(reqs(ask(0)), reqs(ask(0)))), ids(1, 1))
	if w, n := sched.Finish(w); n != 8 || !slices.Equal(hist.Done(w.Hist), []api.Call{{Who: 2, Num: 1}, {Who: 1, Num: 1}}) {
		t.Error(n, w.Hist)
	}
}

// TestLastMoment has worlds whose clock comes to its end on the way.
func TestLastMoment(t *testing.T) {
	for i, w := range onTheWay() {
		_, left := sched.Finish(w)
		for _, n := range []int{0, 1, 2, left - 1, left, left + 1} {
			if n < 0 || flow-n < w.Now {
				continue
			}
			w.Now = flow - n
			got, taken := sched.Finish(w)
			if right, steps := finishBook(w); taken != min(n, left) || steps != taken || !same(got, right) || world.Over(got) != (n >= left) {
				t.Error(i, n, taken, left)
			}
			got, taken = sched.Run(w, make([]int, 100))
			if taken != min(n, left) || got.Now != w.Now+taken || !world.Right(got) {
				t.Error(i, n, taken, left)
			}
		}
	}
}

// P22.2

func TestBound(t *testing.T) {
	for i, c := range []struct {
		d    api.Deck
		todo [][]api.Req
		want int
	}{
		{small(), nil, 0}, {small(), todos(nil, reqs()), 0}, {small(), todos(reqs(free())), 18}, {small(), todos(reqs(free(), ask(0)), reqs(reserve(3))), 54}, {arms(8), slices.Repeat(todos(reqs(api.Req{}, api.Req{})), 8), 16 * 18}, {lab(), jobs(), 13 * 198}, {lab(), todos(nil, nil, reqs(ask(0))), 198}, {arms(1), todos(slices.Repeat(reqs(free()), 4096)), 4096 * 18},
	} {
		if got := sched.Bound(first(c.d, c.todo)); got != c.want {
			t.Error(i, got)
		}
	}
	// Of an arm that is at its first request of two: in all phases there are two of them left, and then one.
	w := first(small(), todos(nil, reqs(reserve(0, 3), free())))
	for step, want := range slices.Concat(slices.Repeat(ids(36), 9), slices.Repeat(ids(18), 7), ids(0)) {
		if got := sched.Bound(w); got != want {
			t.Error(step, got, want)
		}
		w, _ = world.Step(w, 2)
	}
	for i, w := range onTheWay() {
		reqs := 0
		for _, c := range w.Machs {
			reqs += len(c.Todo)
			if c.Phase >= api.PhaseLock && c.Phase <= api.PhaseTell {
				reqs++
			}
		}
		if got := sched.Bound(w); got != reqs*(3*65+3) {
			t.Error(i, got, reqs)
		}
		w.Now = flow
		if got := sched.Bound(w); got != reqs*(3*65+3) {
			t.Error(i, got, reqs)
		}
	}
	for i, w := range wrong() {
		if got := sched.Bound(w); got != 0 {
			t.Error(i, got)
		}
	}
}

func TestPlay(t *testing.T) {
	r := rand.New(rand.NewSource(4))
	for i, todo := range [][][]api.Req{nil, jobs(), jobs()[:1], todos(nil, nil, reqs(free())), todos(reqs(reserve(0, 3)), reqs(reserve(3, 1))), make([][]api.Req, 3)} {
		for _, n := range []int{0, 1, 2, 10, 40, 300} {
			picks := anyPicks(r, n)
			right, _ := runBook(first(lab(), todo), picks)
			right, _ = finishBook(right)
			if w, err := sched.Play(lab(), todo, picks); err != api.OK || !same(w, right) || !world.Over(w) {
				t.Error(i, n, err)
			}
		}
		right, _ := finishBook(first(lab(), todo))
		if w, err := sched.Play(lab(), todo, nil); err != api.OK || !same(w, right) {
			t.Error(i, err)
		}
	}
}

func TestPlayRefused(t *testing.T) {
	many := slices.Repeat(reqs(ask(0)), 4097)
	no := func(d api.Deck, todo [][]api.Req, right api.Errno) {
		t.Helper()
		for _, picks := range [][]int{nil, {0}, {most, least, -1}} {
			if w, err := sched.Play(d, todo, picks); err != right || !same(w, api.World{}) {
				t.Error(err, "for", right)
			}
		}
	}
	off := lab()
	off.Racks[1].X = 99
	no(api.Deck{}, jobs(), api.ErrArg)
	no(api.Deck{}, make([][]api.Req, 9), api.ErrArg)
	no(off, jobs(), api.ErrOut)
	no(off, todos(many, many, many, many), api.ErrOut)
	no(arms(0), nil, api.ErrArms)
	no(arms(9), nil, api.ErrArms)
	no(lab(), make([][]api.Req, 4), api.ErrArg)
	no(lab(), todos(many, many, many, many), api.ErrArg)
	no(lab(), todos(many), api.ErrLong)
	no(lab(), todos(many[:2000], many[:2000], many[:97]), api.ErrLong)
}

// R3

// roomy is a list with room behind its end, and something in it.
func roomy[T any](l []T, odd T) []T { return append(slices.Clone(l), odd, odd)[:len(l)] }

// whole is a list with two more in the room behind its end.
func whole[T any](l []T) []T { return l[:len(l)+2] }

func TestKeepsArguments(t *testing.T) {
	oddReq := api.Req{Kind: -7}
	for i, w := range onTheWay() {
		w.Machs, w.Hist, w.Locks = roomy(w.Machs, api.Mach{Who: -7}), roomy(w.Hist, api.Event{At: -7}), roomy(w.Locks, -7)
		for j, c := range w.Machs {
			w.Machs[j].Todo, w.Machs[j].Told = roomy(c.Todo, oddReq), roomy(c.Told, api.Resp{N: -7})
		}
		picks := roomy(ids(3, -1, most, 5, 0, 2, 2, 1), -7)
		text := func() string {
			l := []any{w, whole(w.Machs), whole(w.Hist), whole(w.Locks), whole(picks)}
			for _, c := range w.Machs {
				l = append(l, whole(c.Todo), whole(c.Told))
			}
			return fmt.Sprint(l...)
		}
		was := text()
		sched.Pick(w, 2)
		sched.Bound(w)
		// Two runs from one world: the second one must not write into what the first one told.
		one, _ := sched.Run(w, picks)
		told := fmt.Sprint(one)
		sched.Run(w, ids(-1, -1, -1, 7))
		sched.Finish(w)
		sched.Finish(one)
		if text() != was || fmt.Sprint(one) != told {
			t.Error(i, "changed")
		}
	}
	todo, picks := jobs(), roomy(ids(1, 2, 3), -7)
	for i, l := range todo {
		todo[i] = roomy(l, oddReq)
	}
	was := fmt.Sprint(todo, whole(todo[0]), whole(todo[1]), whole(todo[2]), whole(picks))
	sched.Play(lab(), todo, picks)
	if fmt.Sprint(todo, whole(todo[0]), whole(todo[1]), whole(todo[2]), whole(picks)) != was {
		t.Error("changed")
	}
}

// P22.3, P22.4

// anyTodo is requests of an arm.
func anyTodo(r *rand.Rand, n int) []api.Req {
	var l []api.Req
	for len(l) < n {
		a := r.Intn(6)
		l = append(l, []api.Req{reserve(r.Perm(65)[:1+r.Intn(4)]...), reserve(60 + r.Intn(5)), reserve(55, 60), take(55 + r.Intn(5)), fill(a, 3), waste(a, 3), move(a, 6, 3), free(), drop(), ask(a), since(a, 0), release(a), {Kind: 99}}[r.Intn(13)])
	}
	return l
}

// checkEnd looks at what is promised of a world that is over.
func checkEnd(t *testing.T, w api.World, todo [][]api.Req) {
	t.Helper()
	if !world.Over(w) || !slices.Equal(w.Locks, make([]int, len(w.Locks))) || sched.Bound(w) != 0 || len(world.Runnable(w)) > 0 {
		t.Fatal("not over", w.Machs, w.Locks)
	}
	told := map[api.Call]int{}
	for _, c := range hist.Told(w.Hist) {
		told[c]++
	}
	total := 0
	for i, c := range w.Machs {
		if i >= len(todo) {
			todo = append(slices.Clip(todo), nil)
		}
		if len(c.Told) != len(todo[i]) {
			t.Fatal("told", len(c.Told), len(todo[i]))
		}
		for j := range todo[i] {
			total++
			if told[api.Call{Who: i + 1, Num: j + 1}] != 1 {
				t.Fatal("not told once", i+1, j+1)
			}
		}
	}
	// The answers are those of the model, one request after the other.
	var l []api.Asked
	for _, c := range hist.Done(w.Hist) {
		l = append(l, api.Asked{Who: c.Who, Req: todo[c.Who-1][c.Num-1]})
	}
	m, err := model.New(w.Model.Deck)
	m, all := model.Run(m, l)
	nums := make([]int, len(w.Machs)+1)
	for i, a := range l {
		if got := w.Machs[a.Who-1].Told[nums[a.Who]]; !same(got, all[i]) {
			t.Fatal("another answer", a, got, all[i])
		}
		nums[a.Who]++
	}
	if err != api.OK || len(told) != total || len(l) != total || len(w.Hist) != 3*total || !same(m, w.Model) {
		t.Fatal("not one after the other", total, len(l))
	}
}

func TestAllEnds(t *testing.T) {
	r := rand.New(rand.NewSource(5))
	for range 60 {
		todo := todos(anyTodo(r, r.Intn(6)), anyTodo(r, r.Intn(6)), anyTodo(r, r.Intn(6)))[:r.Intn(4)]
		w := first(lab(), todo)
		bounds, n := ids(sched.Bound(w)), 0
		for step := 0; ; step++ {
			next, taken := sched.Run(w, anyPicks(r, 1))
			if taken == 0 {
				break
			}
			w = next
			n += taken
			bounds = append(bounds, sched.Bound(w))
			if step%16 == 0 {
				end, left := sched.Finish(w)
				if left > sched.Bound(w) {
					t.Fatal("more steps than that", left, sched.Bound(w))
				}
				checkEnd(t, end, todo)
			}
		}
		for done, bound := range bounds {
			if n-done > bound {
				t.Fatal("more steps than that", n, done, bound)
			}
		}
		checkEnd(t, w, todo)
	}
}

// TestTightBound has a request that needs nearly all the steps of its bound: one step less for each id that it does not lock.
func TestTightBound(t *testing.T) {
	w := first(small(), todos(reqs(reserve(0, 1, 2, 3, 4))))
	if _, n := sched.Finish(w); n != 18 || sched.Bound(w) != 18 {
		t.Error(n, sched.Bound(w))
	}
}

func TestTwoPieces(t *testing.T) {
	r := rand.New(rand.NewSource(6))
	for i := range 4 {
		w, picks := first(lab(), todos(anyTodo(r, 2), anyTodo(r, 1), anyTodo(r, 2))), anyPicks(r, 70)
		if i == 0 {
			w, _ = sched.Run(first(lab(), jobs()), anyPicks(r, 9))
		}
		end, steps := sched.Run(w, picks)
		for cut := range len(picks) + 1 {
			one, a := sched.Run(w, picks[:cut])
			two, b := sched.Run(one, picks[cut:])
			if a != min(cut, steps) || a+b != steps || !same(two, end) {
				t.Error(i, cut, a, b, steps)
			}
		}
		whole, _ := sched.Finish(w)
		for cut := 0; cut < steps; cut += 7 {
			one, _ := sched.Run(w, make([]int, cut))
			if two, _ := sched.Finish(one); !same(two, whole) {
				t.Error(i, cut)
			}
		}
	}
}
