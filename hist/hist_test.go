package hist_test

import (
	"math/rand"
	"slices"
	"strings"
	"testing"

	"deckhand/api"
	"deckhand/hist"
)

const (
	most  = 1<<63 - 1
	least = -1 << 63
)

// at is an event, of a short form.
func at(at, kind, who, num int) api.Event {
	return api.Event{Kind: kind, Who: who, Num: num, At: at}
}

// events is a history of a short form: c12 is the EvCall of the arm 1's request 2, d12 its EvDo, t12 its EvTell, x12 of no kind; each is at the step of its place, from 1 on.
func events(text string) []api.Event {
	var h []api.Event
	for i, w := range strings.Fields(text) {
		h = append(h, at(1+i, 1+strings.Index("cdtx", w[:1]), int(w[1]-'0'), int(w[2]-'0')))
	}
	return h
}

// order is a list of calls of a short form: 12 is the arm 1's request 2.
func order(text string) []api.Call {
	var l []api.Call
	for _, w := range strings.Fields(text) {
		l = append(l, call(w))
	}
	return l
}

// call is a call of that form.
func call(w string) api.Call { return api.Call{Who: int(w[0] - '0'), Num: int(w[1] - '0')} }

// grow has something looked at for all lists of some events that are at most so long, each event at the step of its place.
func grow(kinds []api.Event, room int, look func(h []api.Event)) {
	var on func(h []api.Event)
	on = func(h []api.Event) {
		look(h)
		if len(h) == room {
			return
		}
		for _, e := range kinds {
			e.At = len(h) + 1
			on(append(slices.Clone(h), e))
		}
	}
	on(nil)
}

// anyHist is a random right history of some arms, broken off somewhere; several arms go on at the same time.
func anyHist(r *rand.Rand, arms, length int) []api.Event {
	var h []api.Event
	now, passed := 0, make([]int, arms)
	for range length {
		i := r.Intn(arms)
		now += 1 + r.Intn(3)
		h = append(h, at(now, 1+passed[i]%3, i+1, 1+passed[i]/3))
		passed[i]++
	}
	return h
}

// strayHist is a random list of events of few calls, of all kinds and none.
func strayHist(r *rand.Rand, length int) []api.Event {
	h := make([]api.Event, length)
	for i := range h {
		h[i] = at(r.Intn(9)-1, r.Intn(5), 1+r.Intn(2), r.Intn(3))
	}
	return h
}

// P19.1

func TestRight(t *testing.T) {
	for i, text := range []string{
		"", "c11", "c11 d11", "c11 d11 t11", "c11 d11 t11 c12", "c11 d11 t11 c12 d12", "c11 d11 t11 c12 d12 t12", "c11 d11 t11 c12 d12 t12 c13 d13 t13 c14",
		"c81", "c81 d81 t81 c82", "c51 d51", "c11 c21 d21 t21 d11 t11", "c21 c11 d21 d11 t11 t21", "c11 c21 c31 c41 c51 c61 c71 c81 d81 d71 t81 c82 d11 t71", "c11 d11 c81 t11 d81 c12 d12 t81 t12 c13", "c11 c21 d11 d21 t11 t21 c12 c22 d22 d12",
	} {
		if h := events(text); !hist.Right(h) {
			t.Error(i, text)
		}
	}
	if !hist.Right(nil) || !hist.Right([]api.Event{}) {
		t.Error("none")
	}
}

func TestRightOfSteps(t *testing.T) {
	for i, steps := range [][]int{{1, 2, 3}, {2, 5, 9}, {1, 2, most}, {most - 2, most - 1, most}, {1, 1 << 32, 1<<32 + 1}} {
		if h := []api.Event{at(steps[0], 1, 1, 1), at(steps[1], 2, 1, 1), at(steps[2], 3, 1, 1)}; !hist.Right(h) {
			t.Error(i, h)
		}
	}
	for i, steps := range [][]int{{0, 1, 2}, {-1, 1, 2}, {least, 1, 2}, {0, 0, 0}, {1, 1, 2}, {1, 2, 2}, {1, 3, 2}, {2, 1, 3}, {1, 2, 0}, {1, 2, -1}, {1, 2, least}, {1, 0, 2}, {most, most, most}, {3, 2, 1}, {1, 1<<32 + 1, 1 << 32}} {
		if h := []api.Event{at(steps[0], 1, 1, 1), at(steps[1], 2, 1, 1), at(steps[2], 3, 1, 1)}; hist.Right(h) {
			t.Error(i, h)
		}
	}
	// Steps rise whosever events they are.
	if hist.Right([]api.Event{at(5, 1, 1, 1), at(4, 1, 2, 1)}) || hist.Right([]api.Event{at(5, 1, 1, 1), at(5, 1, 2, 1)}) || !hist.Right([]api.Event{at(5, 1, 1, 1), at(6, 1, 2, 1)}) || hist.Right([]api.Event{at(0, 1, 1, 1)}) {
		t.Error("of two arms")
	}
}

func TestNotRight(t *testing.T) {
	for i, text := range []string{
		// No arm's.
		"c01", "c91", "c11 c91", "c11 c01", "c11 d11 t01", "c11 d91",
		// Kinds that are none, and such that stand elsewhere.
		"x11", "c11 x11", "c11 d11 x11", "d11", "t11", "d11 c11 t11", "c11 t11", "c11 t11 d11", "c11 c11", "c11 d11 d11", "c11 d11 t11 t11", "c11 d11 c11", "c11 d11 t11 d11",
		// Requests that are left out, or there again.
		"c12", "c10", "c11 d12", "c11 d11 t12", "c12 d12 t12", "c11 d11 t11 c11", "c11 d11 t11 c13", "c11 d11 t11 c12 d11", "c11 d11 t11 d12", "c11 d11 t11 t12", "c11 d11 c12", "c11 c12", "c11 d11 t11 c12 d12 t12 c12", "c11 d11 t11 c12 d12 t12 c14", "c11 d11 t11 c10",
		// Of one arm among others.
		"c11 c22", "c11 d21", "c11 c21 d11 t21", "c21 c11 d11 t11 c22", "c11 c21 d11 d22", "c81 c82", "c11 d11 t11 c22", "c11 c21 c11", "c11 c21 d21 t21 c12",
	} {
		if h := events(text); hist.Right(h) {
			t.Error(i, text)
		}
	}
	for i, e := range []api.Event{at(1, 0, 1, 1), at(1, -1, 1, 1), at(1, 1<<32+1, 1, 1), at(1, 4, 1, 1), at(1, least, 1, 1), at(1, most, 1, 1), at(1, 1, -1, 1), at(1, 1, least, 1), at(1, 1, most, 1), at(1, 1, 1<<32+1, 1), at(1, 1, 1, -1), at(1, 1, 1, least), at(1, 1, 1, most), at(1, 1, 1, 1<<32+1), at(1, 1, 0, 1), at(1, 1, 9, 1), {}} {
		if hist.Right([]api.Event{e}) {
			t.Error(i, e)
		}
	}
}

// rightBook tells whether a history is right, arm by arm.
func rightBook(h []api.Event) bool {
	for i, e := range h {
		if e.At < 1 || i > 0 && e.At <= h[i-1].At || e.Who < 1 || e.Who > 8 {
			return false
		}
	}
	for who := 1; who <= 8; who++ {
		kind, num := 1, 1
		for _, e := range h {
			if e.Who != who {
				continue
			}
			if e.Kind != kind || e.Num != num {
				return false
			}
			if kind++; kind > 3 {
				kind, num = 1, num+1
			}
		}
	}
	return true
}

func TestRightOfAll(t *testing.T) {
	right := 0
	grow(events("c11 d11 t11 c12 d12 x11 c21 d21 t21 c22 d22 c91"), 5, func(h []api.Event) {
		if got := hist.Right(h); got != rightBook(h) {
			t.Fatal(h, got)
		}
		if hist.Right(h) {
			right++
		}
	})
	// With n events each has to be of one of the two arms: 2^n histories.
	if right != 1+2+4+8+16+32 {
		t.Error(right)
	}
}

func TestRightOfMany(t *testing.T) {
	r := rand.New(rand.NewSource(1))
	for range 2000 {
		h := anyHist(r, 1+r.Intn(8), r.Intn(60))
		if !hist.Right(h) {
			t.Fatal(h)
		}
		if len(h) == 0 {
			continue
		}
		for range 10 {
			changed := slices.Clone(h)
			switch e := &changed[r.Intn(len(h))]; r.Intn(6) {
			case 0:
				e.Kind = r.Intn(5)
			case 1:
				e.Who = r.Intn(10)
			case 2:
				e.Num += r.Intn(3) - 1
			case 3:
				e.At += r.Intn(7) - 3
			case 4:
				i := r.Intn(len(h))
				changed = slices.Delete(changed, i, i+1)
			default:
				i, j := r.Intn(len(h)), r.Intn(len(h))
				changed[i], changed[j] = changed[j], changed[i]
				changed[i].At, changed[j].At = changed[j].At, changed[i].At
			}
			if got := hist.Right(changed); got != rightBook(changed) {
				t.Fatal(changed, got)
			}
		}
	}
}

// lists is what Done, Told and Open must answer of a history.
type lists struct{ text, done, told, open string }

func TestLists(t *testing.T) {
	for i, c := range []lists{
		{"", "", "", ""}, {"c11", "", "", "11"}, {"c11 d11", "11", "", "11"}, {"c11 d11 t11", "11", "11", ""}, {"c11 c21 d21 t21 d11 t11", "21 11", "21 11", ""}, {"c11 c21 d21 d11 t11", "21 11", "11", "21"}, {"c11 d11 t11 c12", "11", "11", "12"}, {"c31 c11 c21 d21", "21", "", "31 11 21"}, {"c11 d11 t11 c12 d12 c81 d81 t12 t81 c13 c82", "11 12 81", "11 12 81", "13 82"}, {"c21 c11 d11 d21 t21 t11", "11 21", "21 11", ""},
		// What is wrong: twice, never, ahead of their call, of nobody, of no kind.
		{"c11 c11", "", "", "11 11"}, {"d11 d11", "11 11", "", ""}, {"t11 t11", "", "11 11", ""}, {"c11 c11 t11", "", "11", ""}, {"t11 c11", "", "11", ""}, {"t11 c11 c11 c12", "", "11", "12"}, {"c11 t12 t21", "", "12 21", "11"}, {"d12 d21 d11", "12 21 11", "", ""}, {"x11 c11 x11", "", "", "11"}, {"x11 x12", "", "", ""}, {"c00 d00 t00 c09 c90 d99", "00 99", "00", "09 90"}, {"c12 c11 t12 c12", "", "12", "11"}, {"d11 c11 d11 t11 d11", "11 11 11", "11", ""}, {"c12 c11 c12", "", "", "12 11 12"}, {"t11 d11 c11", "11", "11", ""}, {"c11 c12 c21 c22 t11 t22", "", "11 22", "12 21"},
	} {
		h := events(c.text)
		if done, told, open := hist.Done(h), hist.Told(h), hist.Open(h); !slices.Equal(done, order(c.done)) || !slices.Equal(told, order(c.told)) || !slices.Equal(open, order(c.open)) {
			t.Error(i, c.text, done, told, open)
		}
	}
	// Steps and numbers of any size.
	h := []api.Event{at(least, 1, most, least), at(0, 2, most, least), at(most, 3, least, most), at(-1, 1, least, most), at(5, 1<<32+1, 1, 1), at(5, -1, 1, 1)}
	if done, told, open := hist.Done(h), hist.Told(h), hist.Open(h); !slices.Equal(done, []api.Call{{Who: most, Num: least}}) || !slices.Equal(told, []api.Call{{Who: least, Num: most}}) || !slices.Equal(open, []api.Call{{Who: most, Num: least}}) {
		t.Error(done, told, open)
	}
}

func TestListsOfMany(t *testing.T) {
	r := rand.New(rand.NewSource(2))
	for range 3000 {
		h := strayHist(r, r.Intn(12))
		if r.Intn(2) == 0 {
			h = anyHist(r, 1+r.Intn(4), r.Intn(30))
		}
		var done, told, open []api.Call
		for _, e := range h {
			switch c := (api.Call{Who: e.Who, Num: e.Num}); {
			case e.Kind == 2:
				done = append(done, c)
			case e.Kind == 3:
				told = append(told, c)
			case e.Kind == 1 && !slices.ContainsFunc(h, func(e api.Event) bool { return e.Kind == 3 && e.Who == c.Who && e.Num == c.Num }):
				open = append(open, c)
			}
		}
		if a, b, c := hist.Done(h), hist.Told(h), hist.Open(h); !slices.Equal(a, done) || !slices.Equal(b, told) || !slices.Equal(c, open) {
			t.Fatal(h, a, b, c)
		}
	}
}

// P19.2

// firstOf is the place of a call's first event of a kind; -1, if there is none.
func firstOf(h []api.Event, kind int, c api.Call) int {
	for i, e := range h {
		if e.Kind == kind && e.Who == c.Who && e.Num == c.Num {
			return i
		}
	}
	return -1
}

// beforeBook tells whether a call is ahead of another one.
func beforeBook(h []api.Event, a, b api.Call) bool {
	told, called := firstOf(h, 3, a), firstOf(h, 1, b)
	return told >= 0 && called >= 0 && told < called
}

func TestBefore(t *testing.T) {
	for i, c := range []struct {
		text, a, b string
		want       bool
	}{
		{"c11 d11 t11 c21 d21 t21", "11", "21", true}, {"c11 d11 t11 c21 d21 t21", "21", "11", false}, {"c11 d11 t11 c21", "11", "21", true}, {"c11 d11 t11 c21", "21", "11", false}, {"c11 d11 t11 c12", "11", "12", true}, {"c11 d11 t11 c12", "12", "11", false},
		{"c11 c21 d21 t21 d11 t11", "11", "21", false}, {"c11 c21 d21 t21 d11 t11", "21", "11", false}, {"c11 c21 d11 t11", "11", "21", false}, {"c21 c11 d11 t11 d21 t21", "11", "21", false}, {"c11 d11 c21 t11 d21 t21 c12", "11", "21", false}, {"c11 d11 c21 t11 d21 t21 c12", "21", "12", true}, {"c11 d11 c21 t11 d21 t21 c12", "11", "12", true},
		// Of calls that were never called, or never told.
		{"", "11", "21", false}, {"", "11", "11", false}, {"c11 d11 t11", "11", "21", false}, {"c11 d11 t11", "21", "11", false}, {"c11 d11 c21", "11", "21", false}, {"c11 c21", "11", "21", false}, {"d11 d21", "11", "21", false}, {"t11 d21 t21", "11", "21", false}, {"t11", "11", "21", false}, {"c21", "11", "21", false}, {"d11 c21", "11", "21", false}, {"x11 c21", "11", "21", false}, {"t11 x21", "11", "21", false}, {"t11 c21", "11", "21", true},
		// Of a call and itself.
		{"c11", "11", "11", false}, {"c11 d11 t11", "11", "11", false}, {"c11 t11 c11", "11", "11", false}, {"c11 d11 t11 c12 d12 t12", "12", "12", false}, {"t11", "11", "11", false},
		// Of what is told or called several times the first counts.
		{"c11 c21 t11 c21", "11", "21", false}, {"t11 c21 t11 c21", "11", "21", true}, {"c11 t11 c21 t11", "11", "21", true}, {"c21 t11 c21 t11", "11", "21", false}, {"c21 c21 t11 t11", "11", "21", false}, {"t11 t11 c21", "11", "21", true}, {"d11 c21 t11", "11", "21", false}, {"t11 d21 c21", "11", "21", true}, {"t11 t21 c11 c21", "11", "21", true}, {"t11 t21 c11 c21", "21", "11", true},
		// Other arms, other requests.
		{"c11 d11 t11 c21", "12", "21", false}, {"c11 d11 t11 c21", "11", "22", false}, {"c11 d11 t11 c21", "11", "31", false}, {"c11 d11 t11 c12 c21 d12 t12 c13", "12", "21", false}, {"c11 d11 t11 c12 c21 d12 t12 c13", "12", "13", true}, {"c11 d11 t11 c12 c21 d12 t12 c13", "11", "13", true}, {"t12 c21", "21", "12", false}, {"t12 c21", "12", "21", true},
	} {
		if got := hist.Before(events(c.text), call(c.a), call(c.b)); got != c.want {
			t.Error(i, c.text, c.a, c.b, got)
		}
	}
	// It is the order in which events stand that counts, not the steps.
	if !hist.Before([]api.Event{at(9, 3, 1, 1), at(2, 1, 2, 1)}, call("11"), call("21")) || hist.Before([]api.Event{at(9, 1, 2, 1), at(2, 3, 1, 1)}, call("11"), call("21")) {
		t.Error("by steps")
	}
	if !hist.Before([]api.Event{at(1, 3, most, least), at(2, 1, least, most)}, api.Call{Who: most, Num: least}, api.Call{Who: least, Num: most}) {
		t.Error("of any numbers")
	}
}

func TestBeforeOfAll(t *testing.T) {
	grow(events("c11 d11 t11 c21 d21 t21 x11"), 5, func(h []api.Event) {
		for _, w := range []string{"11 21", "21 11", "11 12", "12 21"} {
			l := order(w)
			if got := hist.Before(h, l[0], l[1]); got != beforeBook(h, l[0], l[1]) {
				t.Fatal(h, w, got)
			}
		}
	})
}

func TestFits(t *testing.T) {
	const (
		two   = "c11 c21 d21 t21 d11 t11"                         // both at the same time
		row   = "c11 d11 t11 c21 d21 t21"                         // one behind the other
		three = "c11 d11 t11 c21 c31 d21 d31 t31 t21 c12 d12 t12" // 11, then 21 and 31, then 12
		open  = "c11 d11 t11 c12 d12 c21 c31"                     // 11 was told; 12 was done; 21 and 31 were called
	)
	for i, c := range []struct {
		text, order string
		want        bool
	}{
		{two, "11 21", true}, {two, "21 11", true}, {row, "11 21", true}, {row, "21 11", false},
		// Nothing at all.
		{"", "", true}, {"c11", "", true}, {"c11 d11", "", true}, {"d11", "", true}, {"x11", "", true}, {"c11 d11 t11", "", false}, {"t11", "", false}, {two, "", false}, {open, "", false},
		// Twice.
		{two, "11 21 11", false}, {two, "11 11 21", false}, {two, "21 11 21", false}, {"c11", "11 11", false}, {"c11 d11 t11", "11 11", false}, {"c11 c11 d11 t11", "11", true}, {"c11 c11 t11 t11", "11 11", false},
		// What was told lacks.
		{two, "11", false}, {two, "21", false}, {three, "11 21 31", false}, {three, "21 31 12", false}, {three, "11 31 12", false},
		// What was never called.
		{two, "11 21 31", false}, {two, "31 11 21", false}, {two, "11 12 21", false}, {"", "11", false}, {"d11", "11", false}, {"t11", "11", false}, {"x11", "11", false}, {"d11 t11", "11", false}, {"c11 t21", "11 21", false}, {"c11 t21", "11", false}, {"c11 t21", "21", false},
		// Behind one that it is ahead of: next to it, and far from it.
		{three, "11 21 31 12", true}, {three, "11 31 21 12", true}, {three, "21 11 31 12", false}, {three, "21 31 11 12", false}, {three, "21 31 12 11", false}, {three, "31 21 12 11", false}, {three, "11 21 12 31", false}, {three, "11 12 21 31", false}, {three, "12 11 21 31", false}, {three, "12 21 31 11", false}, {three, "31 11 21 12", false}, {three, "11 31 12 21", false},
		// What is open may stand in it or not; nothing is behind it, but what was told ahead of its call is ahead.
		{open, "11", true}, {open, "11 12", true}, {open, "12 11", false}, {open, "11 21", true}, {open, "21 11", false}, {open, "11 21 12", true}, {open, "11 31 21 12", true}, {open, "11 12 31 21", true}, {open, "31 11 21 12", false}, {open, "11 21 31 12 22", false}, {open, "12", false}, {open, "21 31", false},
		// Wrong histories.
		{"t11 c11", "11", true}, {"t11 c11 c21", "11 21", true}, {"t11 c11 c21", "21 11", false}, {"t11 t21 c11 c21", "11 21", false}, {"t11 t21 c11 c21", "21 11", false}, {"c11 c21 t11 c21", "21 11", true}, {"c11 t11 c21 t11", "21 11", false}, {"c11 t11 c21 c11", "21 11", false}, {"c21 t11 c11 c21", "21 11", true}, {"t11 c21 t31 c11 c31", "11 21 31", false}, {"t11 c21 t31 c31 c11", "21 31 11", false}, {"t11 c31 c21 c11", "21 31 11", false}, {"t11 c31 c21 c11", "11 21 31", true},
	} {
		if got := hist.Fits(events(c.text), order(c.order)); got != c.want {
			t.Error(i, c.text, ":", c.order, got)
		}
	}
	if !hist.Fits(nil, nil) || !hist.Fits([]api.Event{}, []api.Call{}) || hist.Fits(nil, order("11")) || hist.Fits(events(two), []api.Call{}) {
		t.Error("none")
	}
}

// fitsBook tells whether an order fits, by looking at each call by itself, and at each two.
func fitsBook(h []api.Event, order []api.Call) bool {
	for i, c := range order {
		if firstOf(h, 1, c) < 0 || slices.Contains(order[:i], c) {
			return false
		}
		for _, ahead := range order[:i] {
			if beforeBook(h, c, ahead) {
				return false
			}
		}
	}
	for _, e := range h {
		if e.Kind == 3 && !slices.Contains(order, api.Call{Who: e.Who, Num: e.Num}) {
			return false
		}
	}
	return true
}

// orders are all lists of some calls that are at most so long.
func orders(calls []api.Call, room int) [][]api.Call {
	l := [][]api.Call{nil}
	for from := 0; room > 0; room-- {
		to := len(l)
		for _, o := range l[from:to] {
			for _, c := range calls {
				l = append(l, append(slices.Clone(o), c))
			}
		}
		from = to
	}
	return l
}

func TestFitsOfAll(t *testing.T) {
	all := orders(order("11 21 12"), 3)
	fitting := 0
	grow(events("c11 t11 c21 t21 c12 t12"), 5, func(h []api.Event) {
		for _, o := range all {
			got := hist.Fits(h, o)
			if got != fitsBook(h, o) {
				t.Fatal(h, o, got)
			}
			if got {
				fitting++
			}
		}
	})
	if fitting < 1000 {
		t.Error("too few fit", fitting)
	}
}

func TestFitsOfMany(t *testing.T) {
	r := rand.New(rand.NewSource(3))
	fitting := 0
	for range 20000 {
		h := anyHist(r, 1+r.Intn(4), r.Intn(20))
		if r.Intn(4) == 0 {
			h = strayHist(r, r.Intn(10))
		}
		// Mostly what was done, and some of what is open, with few changes.
		o := hist.Done(h)
		if len(o) > 0 {
			for range r.Intn(3) {
				i, j := r.Intn(len(o)), r.Intn(len(o))
				o[i], o[j] = o[j], o[i]
			}
		}
		for _, c := range hist.Open(h) {
			if at := slices.Index(o, c); at >= 0 && r.Intn(2) == 0 {
				o = slices.Delete(o, at, at+1)
			} else if at < 0 && r.Intn(2) == 0 {
				o = slices.Insert(o, r.Intn(len(o)+1), c)
			}
		}
		got := hist.Fits(h, o)
		if got != fitsBook(h, o) {
			t.Fatal(h, o, got)
		}
		if got {
			fitting++
		}
	}
	if fitting < 5000 || fitting > 18000 {
		t.Error("too few fit, or too many", fitting)
	}
}

func TestMixed(t *testing.T) {
	for i, c := range []struct {
		text string
		want int
	}{
		{"", 0}, {"c11", 0}, {"c11 d11 t11", 0}, {"c11 c21 d21 t21 d11 t11", 1}, {"c11 c21 d11 t11 d21 t21", 1}, {"c11 d11 t11 c21 d21 t21", 0}, {"c21 d21 t21 c11 d11 t11", 0}, {"c11 d11 t11 c12 d12 t12", 0},
		// What is open is in no pair.
		{"c11 c21 d21 t21 d11", 0}, {"c11 c21 d21 d11", 0}, {"c11 c21", 0}, {"c11 c21 d21 t21 d11 t11 c12 c22", 1}, {"c31 c11 c21 d21 t21 d11 t11", 1},
		// Of many.
		{"c11 c21 c31 d11 d21 d31 t11 t21 t31", 3}, {"c11 c21 c31 c41 d11 t11 d21 t21 d31 t31 d41 t41", 6}, {"c11 c21 d21 t21 c22 d22 t22 c23 d23 t23 d11 t11", 3}, {"c11 c21 d11 t11 c12 d12 t12 d21 t21", 2}, {"c11 d11 c21 t11 c12 d21 t21 c22 d12 t12 d22 t22", 3}, {"c11 c21 d11 t11 c31 d21 t21 c12 d31 t31 d12 t12", 3}, {"c11 c21 c31 c41 c51 c61 c71 c81 d11 d21 d31 d41 d51 d61 d71 d81 t81 t71 t61 t51 t41 t31 t21 t11", 28},
		// Told twice, called twice, never called, told ahead of its call: each call once, each pair once.
		{"c11 c21 t11 t21 t11 t21", 1}, {"c11 c11 c21 c21 t11 t21", 1}, {"c11 t11 t11", 0}, {"c11 t11 c21 t21 t11", 0}, {"c11 t11 c21 t21 c11", 0}, {"c11 c21 t11 c21 t21", 1}, {"t11 t21", 1}, {"t11 t21 t31", 3}, {"t11 c21 t21", 0}, {"c21 t21 t11", 1}, {"c21 t11 t21", 1}, {"t11 t21 c11 c21", 0}, {"t11 c11 c21 t21", 0}, {"c21 t11 c11 t21", 1}, {"t11 c21 t21 c11", 0}, {"t11 c21 c11 t21", 0}, {"t11 t12 t11 t12 t12", 1}, {"x11 x21 c11 c21 t11 t21 x11", 1}, {"d11 d21", 0}, {"c11 d11 c21 d21", 0}, {"t11 t21 t31 c31", 1}, {"t11 t21 c21 t31", 2},
	} {
		if got := hist.Mixed(events(c.text)); got != c.want {
			t.Error(i, c.text, got)
		}
	}
	if hist.Mixed(nil) != 0 || hist.Mixed([]api.Event{}) != 0 {
		t.Error("none")
	}
}

// mixedBook is how many pairs are mixed, looked through one by one.
func mixedBook(h []api.Event) int {
	var told []api.Call
	for _, e := range h {
		if c := (api.Call{Who: e.Who, Num: e.Num}); e.Kind == 3 && !slices.Contains(told, c) {
			told = append(told, c)
		}
	}
	n := 0
	for i, a := range told {
		for _, b := range told[:i] {
			if !beforeBook(h, a, b) && !beforeBook(h, b, a) {
				n++
			}
		}
	}
	return n
}

func TestMixedOfAll(t *testing.T) {
	grow(events("c11 t11 c21 t21 c12 t12"), 6, func(h []api.Event) {
		if got := hist.Mixed(h); got != mixedBook(h) {
			t.Fatal(h, got)
		}
	})
}

func TestMixedOfMany(t *testing.T) {
	r := rand.New(rand.NewSource(4))
	for range 3000 {
		h := anyHist(r, 1+r.Intn(8), r.Intn(80))
		if r.Intn(3) == 0 {
			h = strayHist(r, r.Intn(20))
		}
		if got := hist.Mixed(h); got != mixedBook(h) {
			t.Fatal(h, got)
		}
	}
}

// R3

// odd lies in the room behind lists' ends.
var odd = at(77, 3, 1, 1)

func TestKeepsArguments(t *testing.T) {
	r := rand.New(rand.NewSource(5))
	for range 300 {
		was := anyHist(r, 3, r.Intn(20))
		if r.Intn(2) == 0 {
			was = strayHist(r, r.Intn(10))
		}
		list := hist.Done(was)
		slices.Reverse(list)
		h := append(slices.Clone(was), odd, odd)[:len(was)]
		o := append(slices.Clone(list), call("11"), call("11"))[:len(list)]
		hist.Right(h)
		hist.Fits(h, o)
		hist.Mixed(h)
		hist.Before(h, call("11"), call("21"))
		hist.Done(h)
		hist.Told(h)
		hist.Open(h)
		if !slices.Equal(h[:len(h)+2], append(slices.Clone(was), odd, odd)) || !slices.Equal(o[:len(o)+2], append(slices.Clone(list), call("11"), call("11"))) {
			t.Fatal("changed", h, o)
		}
	}
}

func TestKeepsAnswers(t *testing.T) {
	h := events("c11 c21 d21 t21 d11 c31")
	done, told, open := hist.Done(h), hist.Told(h), hist.Open(h)
	for i := range h {
		h[i] = odd
	}
	for _, l := range [][]api.Call{hist.Done(h), hist.Told(h), hist.Open(h)} {
		for i := range l[:cap(l)] {
			l[:cap(l)][i] = call("99")
		}
	}
	if !slices.Equal(done, order("21 11")) || !slices.Equal(told, order("21")) || !slices.Equal(open, order("11 31")) {
		t.Error(done, told, open)
	}
}

// P19.3

func TestDoneFits(t *testing.T) {
	r := rand.New(rand.NewSource(6))
	grow(events("c11 d11 t11 c12 d12 t12 c21 d21 t21"), 6, func(h []api.Event) {
		if hist.Right(h) && !hist.Fits(h, hist.Done(h)) {
			t.Fatal(h)
		}
	})
	for range 2000 {
		h := anyHist(r, 1+r.Intn(8), r.Intn(100))
		if !hist.Right(h) || !hist.Fits(h, hist.Done(h)) {
			t.Fatal(h)
		}
	}
}

// TestLong looks at as long a history as a world has.
func TestLong(t *testing.T) {
	var h []api.Event
	for num := 1; num <= 512; num++ {
		for kind := 1; kind <= 3; kind++ {
			for who := 1; who <= 8; who++ {
				h = append(h, at(1+len(h), kind, who, num))
			}
		}
	}
	done := hist.Done(h)
	if !hist.Right(h) || len(done) != 4096 || !hist.Fits(h, done) || hist.Mixed(h) != 512*28 || len(hist.Open(h)) != 0 || !hist.Before(h, done[0], done[4095]) {
		t.Error("a long history")
	}
	slices.Reverse(done)
	if hist.Fits(h, done) {
		t.Error("the other way round")
	}
}
