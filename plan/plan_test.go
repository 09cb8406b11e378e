package plan_test

import (
	"math/rand"
	"slices"
	"testing"

	"deckhand/api"
	"deckhand/plan"
)

const (
	most  = 1<<63 - 1
	least = -1 << 63
)

// ids is a list of numbers, of a short form.
func ids(l ...int) []int { return l }

// deeds is a list of deeds, of a short form.
func deeds(l ...api.Deed) []api.Deed { return l }

// Deeds, of a short form.
func lock(id int) api.Deed { return api.Deed{Kind: 1, Id: id} }
func look(id int) api.Deed { return api.Deed{Kind: 2, Id: id} }
func do() api.Deed         { return api.Deed{Kind: 3} }
func free(id int) api.Deed { return api.Deed{Kind: 4, Id: id} }
func tell() api.Deed       { return api.Deed{Kind: 5} }

// notSets are lists that are no sets.
func notSets() [][]int {
	return [][]int{{0, 0}, {1, 0}, {2, 1}, {0, 1, 1}, {0, 2, 1}, {1, 0, 2}, {9, 8}, {-1, -1}, {-1, -2}, {most, least}, {most, most}, {least, least}, {0, 1, 0}, {0, 1, 2, 3, 3}, {5, 2}}
}

// someSets are sets, with numbers below 0 among them.
func someSets() [][]int {
	l := [][]int{nil, {}, {0}, {1}, {-1}, {most}, {least}, {2, 5}, {-3, 2}, {-2, -1}, {least, most}, {least, -1, 0, 1, most}, {0, 1, 2, 3, 4, 5, 6, 7, 8, 9, 10, 11, 12, 13, 14, 15, 20, 30, 40}}
	for bits := range 32 {
		var s []int
		for id := range 5 {
			if bits>>id&1 == 1 {
				s = append(s, id-1)
			}
		}
		l = append(l, s)
	}
	return l
}

// long is n numbers from a first one on.
func long(first, n int) []int {
	l := make([]int, n)
	for i := range l {
		l[i] = first + i
	}
	return l
}

// P18.1

func TestMake(t *testing.T) {
	for i, c := range []struct {
		ids   []int
		looks bool
		want  []api.Deed
	}{
		{ids(2, 5), true, deeds(lock(2), look(2), lock(5), look(5), do(), free(5), free(2), tell())}, {ids(2, 5), false, deeds(lock(2), lock(5), do(), free(5), free(2), tell())},
		{nil, true, deeds(do(), tell())}, {nil, false, deeds(do(), tell())}, {ids(), true, deeds(do(), tell())}, {ids(), false, deeds(do(), tell())},
		{ids(0), true, deeds(lock(0), look(0), do(), free(0), tell())}, {ids(0), false, deeds(lock(0), do(), free(0), tell())},
		{ids(0, 1, 7), true, deeds(lock(0), look(0), lock(1), look(1), lock(7), look(7), do(), free(7), free(1), free(0), tell())}, {ids(0, 1, 7), false, deeds(lock(0), lock(1), lock(7), do(), free(7), free(1), free(0), tell())},
		{ids(-3, 2), true, deeds(lock(-3), look(-3), lock(2), look(2), do(), free(2), free(-3), tell())}, {ids(least, most), false, deeds(lock(least), lock(most), do(), free(most), free(least), tell())},
	} {
		if got := plan.Make(c.ids, c.looks); !slices.Equal(got, c.want) {
			t.Error(i, got)
		}
	}
	for _, l := range notSets() {
		if a, b := plan.Make(l, true), plan.Make(l, false); len(a) > 0 || len(b) > 0 {
			t.Error(l, a, b)
		}
	}
}

func TestBack(t *testing.T) {
	for i, c := range []struct {
		ids  []int
		k    int
		want []api.Deed
	}{
		{ids(2, 5, 9), 2, deeds(free(5), free(2), tell())}, {ids(2, 5, 9), 1, deeds(free(2), tell())}, {ids(2, 5, 9), 0, deeds(tell())}, {ids(2, 5, 9), 3, deeds(free(9), free(5), free(2), tell())}, {ids(2, 5, 9), 4, deeds(free(9), free(5), free(2), tell())}, {ids(2, 5, 9), most, deeds(free(9), free(5), free(2), tell())}, {ids(2, 5, 9), -1, deeds(tell())}, {ids(2, 5, 9), least, deeds(tell())}, {ids(2, 5, 9), 1 << 32, deeds(free(9), free(5), free(2), tell())}, {ids(2, 5, 9), -1 << 32, deeds(tell())},
		{nil, 0, deeds(tell())}, {nil, 1, deeds(tell())}, {nil, -1, deeds(tell())}, {ids(), 0, deeds(tell())}, {ids(), most, deeds(tell())},
		{ids(0), 1, deeds(free(0), tell())}, {ids(0), 0, deeds(tell())}, {ids(-3, 2), 1, deeds(free(-3), tell())}, {ids(-3, 2), 2, deeds(free(2), free(-3), tell())}, {ids(least, most), 2, deeds(free(most), free(least), tell())},
	} {
		if got := plan.Back(c.ids, c.k); !slices.Equal(got, c.want) {
			t.Error(i, got)
		}
	}
	// Of what is no set there is no way back from some of it either.
	for _, l := range notSets() {
		for k := -1; k < 4; k++ {
			if got := plan.Back(l, k); len(got) > 0 {
				t.Error(l, k, got)
			}
		}
	}
}

func TestSteps(t *testing.T) {
	for i, c := range []struct{ n, looking, plain int }{
		{2, 8, 6}, {0, 2, 2}, {1, 5, 4}, {3, 11, 8}, {16, 50, 34}, {40, 122, 82}, {65535, 196607, 131072}, {65536, 196610, 131074},
		{65537, 0, 0}, {65538, 0, 0}, {-1, 0, 0}, {-2, 0, 0}, {-65536, 0, 0}, {least, 0, 0}, {most, 0, 0}, {1 << 32, 0, 0}, {1<<32 + 1, 0, 0}, {1 << 62, 0, 0},
	} {
		if a, b := plan.Steps(c.n, true), plan.Steps(c.n, false); a != c.looking || b != c.plain {
			t.Error(i, a, b)
		}
	}
}

// P18.2

func TestTwo(t *testing.T) {
	for i, l := range [][]api.Deed{
		deeds(do(), tell()), deeds(lock(0), do(), free(0), tell()), deeds(lock(0), look(0), do(), free(0), tell()), deeds(lock(2), look(2), lock(5), look(5), do(), free(5), free(2), tell()),
		// Looks at what is held, later, or again; what is given back in other orders.
		deeds(lock(2), lock(5), look(2), look(5), do(), free(5), free(2), tell()), deeds(lock(2), lock(5), look(5), look(2), look(5), do(), free(2), free(5), tell()), deeds(lock(1), lock(2), lock(3), do(), free(2), free(1), free(3), tell()), deeds(lock(1), lock(2), lock(3), look(2), do(), free(3), free(1), free(2), tell()),
		// Ids of all kinds.
		deeds(lock(-1), look(-1), do(), free(-1), tell()), deeds(lock(-2), lock(-1), lock(0), do(), free(-2), free(0), free(-1), tell()), deeds(lock(least), look(least), lock(most), look(most), do(), free(least), free(most), tell()), deeds(lock(least), do(), free(least), tell()),
	} {
		if !plan.Two(l) {
			t.Error(i, l)
		}
	}
}

func TestNotTwo(t *testing.T) {
	for i, l := range [][]api.Deed{
		// Something lacks.
		nil, deeds(), deeds(do()), deeds(tell()), deeds(lock(1)), deeds(lock(1), free(1)), deeds(lock(1), free(1), tell()), deeds(lock(1), do(), free(1)), deeds(lock(1), do(), tell()), deeds(lock(1), lock(2), do(), free(2), tell()), deeds(lock(1), lock(2), do(), free(1), tell()), deeds(look(1), do(), tell()), deeds(do(), free(1), tell()),
		// Mutexes that are held already, or are less than one that is held.
		deeds(lock(1), lock(1), do(), free(1), tell()), deeds(lock(1), lock(1), do(), free(1), free(1), tell()), deeds(lock(2), lock(1), do(), free(1), free(2), tell()), deeds(lock(1), lock(3), lock(2), do(), free(3), free(2), free(1), tell()), deeds(lock(1), lock(3), lock(1), do(), free(3), free(1), tell()), deeds(lock(0), lock(-1), do(), free(-1), free(0), tell()), deeds(lock(most), lock(least), do(), free(least), free(most), tell()), deeds(lock(0), lock(0), do(), free(0), tell()),
		// Mutexes that are taken behind one that was given back.
		deeds(lock(1), do(), free(1), lock(2), free(2), tell()), deeds(lock(1), free(1), lock(2), do(), free(2), tell()), deeds(lock(1), lock(2), do(), free(1), lock(3), free(2), free(3), tell()), deeds(lock(1), do(), free(1), lock(1), free(1), tell()),
		// What is given back, and not held.
		deeds(lock(1), do(), free(2), free(1), tell()), deeds(lock(1), do(), free(1), free(1), tell()), deeds(free(1), do(), tell()), deeds(lock(1), do(), free(0), free(1), tell()), deeds(do(), free(0), tell()),
		// Looks at what is not held, and too late.
		deeds(look(1), lock(1), do(), free(1), tell()), deeds(lock(1), look(2), do(), free(1), tell()), deeds(lock(1), look(0), do(), free(1), tell()), deeds(lock(1), do(), look(1), free(1), tell()), deeds(lock(1), do(), free(1), look(1), tell()), deeds(do(), look(0), tell()), deeds(look(0), do(), tell()), deeds(lock(1), look(2), lock(2), do(), free(2), free(1), tell()),
		// Two do, locks behind it, frees ahead of it.
		deeds(do(), do(), tell()), deeds(lock(1), do(), do(), free(1), tell()), deeds(lock(1), do(), free(1), do(), tell()), deeds(do(), lock(1), free(1), tell()), deeds(lock(1), do(), lock(2), free(2), free(1), tell()), deeds(lock(1), free(1), do(), tell()), deeds(lock(1), lock(2), free(2), do(), free(1), tell()), deeds(lock(1), lock(2), free(1), do(), free(2), tell()),
		// Tells elsewhere.
		deeds(tell(), do()), deeds(tell(), do(), tell()), deeds(do(), tell(), tell()), deeds(lock(1), do(), tell(), free(1), tell()), deeds(lock(1), do(), tell(), free(1)), deeds(lock(1), tell(), do(), free(1), tell()), deeds(do(), tell(), do()), deeds(do(), tell(), lock(1)), deeds(do(), tell(), lock(1), free(1), tell()), deeds(do(), tell(), do(), tell()), deeds(do(), tell(), api.Deed{}),
		// Other deeds.
		deeds(api.Deed{}, do(), tell()), deeds(do(), api.Deed{}, tell()), deeds(api.Deed{Kind: 6}, do(), tell()), deeds(do(), api.Deed{Kind: 6}, tell()), deeds(lock(1), api.Deed{Kind: 6, Id: 1}, do(), free(1), tell()), deeds(lock(1), api.Deed{Kind: -1, Id: 1}, do(), free(1), tell()), deeds(api.Deed{Kind: least}, do(), tell()), deeds(api.Deed{Kind: most}, do(), tell()), deeds(api.Deed{Kind: 1<<32 + 3}, tell()), deeds(api.Deed{Kind: 0, Id: 1}, do(), tell()), deeds(lock(1), api.Deed{Kind: 0, Id: 1}, do(), free(1), tell()),
		// Ids where there is none.
		deeds(api.Deed{Kind: 3, Id: 1}, tell()), deeds(api.Deed{Kind: 3, Id: -1}, tell()), deeds(do(), api.Deed{Kind: 5, Id: 1}), deeds(do(), api.Deed{Kind: 5, Id: -1}), deeds(lock(1), api.Deed{Kind: 3, Id: 1}, free(1), tell()), deeds(lock(1), do(), free(1), api.Deed{Kind: 5, Id: 1}), deeds(api.Deed{Kind: 3, Id: 1 << 32}, tell()), deeds(api.Deed{Kind: 3, Id: most}, api.Deed{Kind: 5, Id: least}),
	} {
		if plan.Two(l) {
			t.Error(i, l)
		}
	}
}

// holdsBook tells whether the last of the deeds that take an id or give it back takes it.
func holdsBook(l []api.Deed, id int) bool {
	for _, d := range slices.Backward(l) {
		if d.Id == id && (d.Kind == 1 || d.Kind == 4) {
			return d.Kind == 1
		}
	}
	return false
}

// anyOf tells whether there is one of these kinds among deeds.
func anyOf(l []api.Deed, kinds ...int) bool {
	return slices.ContainsFunc(l, func(d api.Deed) bool { return slices.Contains(kinds, d.Kind) })
}

// mayStand tells whether the deed i of a list keeps what the chapter says of a list that is two-phased.
func mayStand(l []api.Deed, i int) bool {
	ahead, behind, d := l[:i], l[i+1:], l[i]
	switch d.Kind {
	case 1:
		for _, h := range ahead {
			if h.Id >= d.Id && holdsBook(ahead, h.Id) {
				return false
			}
		}
		return !anyOf(ahead, 4)
	case 2:
		return holdsBook(ahead, d.Id)
	case 3:
		return d.Id == 0 && !anyOf(ahead, 3, 4) && !anyOf(behind, 1, 2, 3)
	case 4:
		return holdsBook(ahead, d.Id)
	case 5:
		for _, h := range ahead {
			if holdsBook(ahead, h.Id) {
				return false
			}
		}
		return d.Id == 0 && len(behind) == 0
	}
	return false
}

// twoBook tells whether deeds are two-phased, by looking at each by itself.
func twoBook(l []api.Deed) bool {
	for i := range l {
		if !mayStand(l, i) {
			return false
		}
	}
	return anyOf(l, 3) && anyOf(l, 5)
}

// checkTwo looks whether Two answers what the long way gives.
func checkTwo(t *testing.T, l []api.Deed) {
	t.Helper()
	if got := plan.Two(l); got != twoBook(l) {
		t.Fatal(l, got)
	}
}

// TestTwoOfAll looks at all short lists of deeds of two ids, and of some that are none.
func TestTwoOfAll(t *testing.T) {
	kinds := deeds(lock(0), lock(1), look(0), look(1), do(), free(0), free(1), tell(), api.Deed{}, api.Deed{Kind: 6}, api.Deed{Kind: 3, Id: 1}, api.Deed{Kind: 5, Id: 1})
	two := 0
	var grow func(l []api.Deed, room int)
	grow = func(l []api.Deed, room int) {
		checkTwo(t, l)
		if plan.Two(l) {
			two++
		}
		if room == 0 {
			return
		}
		for _, d := range kinds {
			grow(append(slices.Clone(l), d), room-1)
		}
	}
	grow(nil, 5)
	// do tell; lock do free tell, of each id; these with a look; nothing else has five deeds or fewer.
	if two != 5 {
		t.Error(two)
	}
}

// TestTwoOfChanged looks at plans with one deed left out, put in, exchanged with the next one, or changed.
func TestTwoOfChanged(t *testing.T) {
	others := deeds(do(), tell(), api.Deed{}, api.Deed{Kind: 6}, api.Deed{Kind: 3, Id: 2}, api.Deed{Kind: 5, Id: 2})
	for id := -2; id < 5; id++ {
		others = append(others, lock(id), look(id), free(id))
	}
	for _, s := range someSets() {
		if len(s) > 5 {
			continue
		}
		for _, looks := range []bool{false, true} {
			l := plan.Make(s, looks)
			checkTwo(t, l)
			for i := range l {
				checkTwo(t, slices.Delete(slices.Clone(l), i, i+1))
				if i > 0 {
					turned := slices.Clone(l)
					turned[i-1], turned[i] = turned[i], turned[i-1]
					checkTwo(t, turned)
				}
				for _, d := range others {
					changed := slices.Clone(l)
					changed[i] = d
					checkTwo(t, changed)
					checkTwo(t, slices.Insert(slices.Clone(l), i, d))
				}
			}
			for _, d := range others {
				checkTwo(t, append(slices.Clone(l), d))
			}
		}
	}
}

func TestTwoOfMany(t *testing.T) {
	r := rand.New(rand.NewSource(1))
	for range 3000 {
		var l []api.Deed
		for id := range r.Intn(7) {
			l = append(l, lock(id-2))
			for range r.Intn(3) {
				l = append(l, look(r.Intn(id+1)-2))
			}
		}
		held := plan.Holds(l, len(l))
		r.Shuffle(len(held), func(i, j int) { held[i], held[j] = held[j], held[i] })
		l = append(l, do())
		for _, id := range held {
			l = append(l, free(id))
		}
		l = append(l, tell())
		if !plan.Two(l) {
			t.Fatal(l)
		}
		for range 20 {
			changed := slices.Clone(l)
			i, j := r.Intn(len(l)), r.Intn(len(l))
			changed[i], changed[j] = changed[j], changed[i]
			checkTwo(t, changed)
		}
	}
}

func TestHolds(t *testing.T) {
	mixed := deeds(lock(5), lock(2), look(9), do(), free(5), tell(), lock(-1), free(7), lock(5))
	for i, c := range []struct {
		deeds []api.Deed
		k     int
		want  []int
	}{
		{mixed, 0, nil}, {mixed, -1, nil}, {mixed, least, nil}, {mixed, -1 << 32, nil}, {mixed, 1, ids(5)}, {mixed, 2, ids(2, 5)}, {mixed, 3, ids(2, 5)}, {mixed, 4, ids(2, 5)}, {mixed, 5, ids(2)}, {mixed, 6, ids(2)}, {mixed, 7, ids(-1, 2)}, {mixed, 8, ids(-1, 2)}, {mixed, 9, ids(-1, 2, 5)}, {mixed, 10, ids(-1, 2, 5)}, {mixed, most, ids(-1, 2, 5)}, {mixed, 1 << 32, ids(-1, 2, 5)},
		{nil, 0, nil}, {nil, 3, nil}, {deeds(), -1, nil}, {deeds(), most, nil},
		// Locked twice, given back twice, given back ahead of the lock.
		{deeds(lock(1), lock(1)), 2, ids(1)}, {deeds(lock(1), lock(1), free(1)), 3, nil}, {deeds(lock(1), free(1), free(1)), 3, nil}, {deeds(free(1), lock(1)), 2, ids(1)}, {deeds(free(1), lock(1)), 1, nil}, {deeds(lock(1), free(1), lock(1)), 3, ids(1)}, {deeds(lock(1), free(1), free(1), lock(1)), 4, ids(1)}, {deeds(lock(1), free(1), lock(1), free(1)), 4, nil}, {deeds(lock(1), free(1), lock(1), free(1)), 3, ids(1)}, {deeds(lock(1), free(1), lock(1), free(1)), 2, nil},
		// Other deeds of the id, and of other ids.
		{deeds(lock(0), do(), tell(), look(0)), 4, ids(0)}, {deeds(look(0), do(), tell(), api.Deed{}), 4, nil}, {deeds(api.Deed{Kind: 6, Id: 1}, api.Deed{Kind: 0, Id: 1}, api.Deed{Kind: -4, Id: 1}), 3, nil}, {deeds(lock(1), api.Deed{Kind: 6, Id: 1}, api.Deed{Kind: 0, Id: 1}), 3, ids(1)}, {deeds(lock(1), free(0), free(2), free(-1)), 4, ids(1)}, {deeds(lock(most), lock(0), lock(least)), 3, ids(least, 0, most)}, {deeds(lock(3), lock(2), lock(1), lock(0), lock(2)), 5, ids(0, 1, 2, 3)},
	} {
		if got := plan.Holds(c.deeds, c.k); !slices.Equal(got, c.want) {
			t.Error(i, got)
		}
	}
}

func TestHoldsOfMany(t *testing.T) {
	r := rand.New(rand.NewSource(2))
	for range 5000 {
		l := make([]api.Deed, r.Intn(30))
		for i := range l {
			l[i] = api.Deed{Kind: r.Intn(7), Id: r.Intn(8) - 2}
			if r.Intn(2) == 0 {
				l[i].Kind = []int{1, 4}[r.Intn(2)]
			}
		}
		for k := -1; k < len(l)+2; k++ {
			var want []int
			for id := -2; id < 6; id++ {
				if holdsBook(l[:min(max(k, 0), len(l))], id) {
					want = append(want, id)
				}
			}
			if got := plan.Holds(l, k); !slices.Equal(got, want) {
				t.Fatal(l, k, got, want)
			}
		}
	}
}

// R3

// roomy is a list with room behind its end, and something in that.
func roomy[T any](l []T, more T) []T { return append(slices.Clone(l), more, more)[:len(l)] }

// kept tells whether a list made by roomy is as it was, with the room behind it.
func kept[T comparable](l, was []T, more T) bool {
	return slices.Equal(l[:len(l)+2], append(slices.Clone(was), more, more))
}

// spoil overwrites an answer and the room behind it.
func spoil[T any](l []T, by T) {
	l = l[:cap(l)]
	for i := range l {
		l[i] = by
	}
}

func TestKeepsArguments(t *testing.T) {
	for _, s := range append(someSets(), notSets()...) {
		for k := -1; k < 5; k++ {
			for _, looks := range []bool{false, true} {
				l := roomy(s, 77)
				made := plan.Make(l, looks)
				p := roomy(made, lock(77))
				plan.Two(p)
				spoil(plan.Holds(p, k), 55)
				if !kept(p, made, lock(77)) {
					t.Fatal("changed deeds", p, made)
				}
				spoil(plan.Back(l, k), lock(55))
				spoil(made, lock(55))
				if !kept(l, s, 77) {
					t.Fatal("changed", l, s)
				}
			}
		}
	}
	falling := roomy(deeds(lock(3), lock(2), lock(1), free(2)), lock(77))
	plan.Two(falling)
	spoil(plan.Holds(falling, 4), 55)
	if !kept(falling, deeds(lock(3), lock(2), lock(1), free(2)), lock(77)) {
		t.Error("changed", falling)
	}
}

func TestKeepsAnswers(t *testing.T) {
	s := ids(2, 5)
	made, back := plan.Make(s, true), plan.Back(s, 2)
	l := deeds(lock(1), lock(2))
	held := plan.Holds(l, 2)
	spoil(s, 55)
	spoil(l, lock(55))
	spoil(plan.Make(ids(2, 5), true), lock(55))
	if !slices.Equal(made, deeds(lock(2), look(2), lock(5), look(5), do(), free(5), free(2), tell())) || !slices.Equal(back, deeds(free(5), free(2), tell())) || !slices.Equal(held, ids(1, 2)) {
		t.Error(made, back, held)
	}
}

// P18.3

// checkPlan looks at a set's plans and ways back; from is how many first locks are looked at.
func checkPlan(t *testing.T, s []int, from []int) {
	t.Helper()
	for _, looks := range []bool{false, true} {
		l := plan.Make(s, looks)
		if !plan.Two(l) || len(l) != plan.Steps(len(s), looks) {
			t.Fatal(s, looks, len(l))
		}
		for _, k := range from {
			at := k
			if looks {
				at = 2 * k
			}
			first, back := l[:at], plan.Back(s, k)
			if held := plan.Holds(l, at); !slices.Equal(held, s[:k]) {
				t.Fatal("first", s, looks, k, held)
			}
			if len(back) != k+1 || back[k] != tell() {
				t.Fatal("back", s, k, back)
			}
			var given []int
			for _, d := range back[:k] {
				if d.Kind != 4 {
					t.Fatal("back", s, k, back)
				}
				given = append(given, d.Id)
			}
			slices.Sort(given)
			if all := append(slices.Clone(first), back...); !slices.Equal(given, s[:k]) || len(plan.Holds(all, len(all))) > 0 {
				t.Fatal("given", s, k, given)
			}
		}
	}
}

func TestPlans(t *testing.T) {
	for _, s := range someSets() {
		checkPlan(t, s, long(0, len(s)+1))
	}
	checkPlan(t, long(-5, 300), ids(0, 1, 150, 299, 300))
	checkPlan(t, long(0, 65536), ids(0, 1, 65535, 65536))
}

// TestLongPlans looks whether long lists of deeds end, in whatever order ids are given back.
func TestLongPlans(t *testing.T) {
	s := long(0, 200000)
	l := plan.Make(s, true)
	if !plan.Two(l) {
		t.Error("falling")
	}
	slices.Reverse(l[len(l)-1-len(s) : len(l)-1])
	if !plan.Two(l) {
		t.Error("rising")
	}
	if got := plan.Holds(l, 2*len(s)+1); !slices.Equal(got, s) {
		t.Error(len(got))
	}
}
