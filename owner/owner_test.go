package owner_test

import (
	"math/rand"
	"slices"
	"testing"

	"deckhand/api"
	"deckhand/owner"
)

const (
	most  = 1<<63 - 1
	least = -1 << 63
	arms  = 8 // the greatest arm
)

// ids is a list of numbers, of a short form.
func ids(l ...int) []int { return l }

// wrongOwners are lists that are no owners.
func wrongOwners() [][]int {
	var l [][]int
	for _, who := range []int{-1, -2, arms + 1, arms + 2, 1 << 32, 1<<32 + 1, least, most} {
		l = append(l, ids(who), ids(who, 0, 0, 0), ids(0, who, 1, 2), ids(1, 2, 8, who))
	}
	return l
}

// rightOwners are lists that are.
func rightOwners() [][]int {
	return [][]int{nil, {}, {0}, {1}, {8}, {0, 2, 0}, {0, 0, 0, 0, 0}, {1, 1, 1, 1}, {8, 0, 8, 1, 2, 0}, {0, 1, 2, 3, 4, 5, 6, 7, 8}, {3, 0, 3, 0, 3, 0, 1}}
}

// notSets are lists that are no sets.
func notSets() [][]int {
	return [][]int{{0, 0}, {1, 0}, {2, 1}, {0, 1, 1}, {0, 2, 1}, {1, 0, 2}, {9, 8}, {-1, -1}, {-1, -2}, {most, least}, {0, 1, 0}, {99, 99}}
}

// idSets are sets of ids, with some that no owners here have a place for.
func idSets() [][]int {
	l := [][]int{nil, {}, {least}, {-1}, {most}, {9}, {10, 11}, {99, most}, {-1, 0}, {least, 0, 1}, {0, 9}, {0, 1, 2, 3, 4, 5, 6, 7, 8}, {0, most}, {-5, -3, 99}}
	for bits := range 128 {
		var s []int
		for id := range 7 {
			if bits>>id&1 == 1 {
				s = append(s, id)
			}
		}
		l = append(l, s)
	}
	return l
}

// P14.1

func TestRight(t *testing.T) {
	for _, o := range rightOwners() {
		if !owner.Right(o) {
			t.Error(o)
		}
	}
	for _, o := range wrongOwners() {
		if owner.Right(o) {
			t.Error(o)
		}
	}
	for who := -3; who <= arms+3; who++ {
		if owner.Right(ids(who)) != (who >= 0 && who <= 8) || owner.Right(ids(0, 8, who)) != (who >= 0 && who <= 8) {
			t.Error(who)
		}
	}
}

func TestNew(t *testing.T) {
	for n := -3; n < 200; n++ {
		o := owner.New(n)
		if len(o) != max(n, 0) || slices.ContainsFunc(o, func(who int) bool { return who != 0 }) || !owner.Right(o) {
			t.Error(n, o)
		}
	}
	for _, n := range []int{least, -1 << 32} {
		if o := owner.New(n); len(o) != 0 {
			t.Error(n, len(o))
		}
	}
	if o := owner.New(300000); len(o) != 300000 || slices.Max(o) != 0 || slices.Min(o) != 0 {
		t.Error(len(o))
	}
	// What no memory holds is not promised, but panics not.
	owner.New(most)
	a, b := owner.New(3), owner.New(3)
	a[0], a[1], a[2] = 1, 2, 3
	if !slices.Equal(b, ids(0, 0, 0)) || !slices.Equal(owner.New(3), ids(0, 0, 0)) {
		t.Error(b)
	}
}

// P14.2

// call is what is asked of Take or Give, and what they answer.
type call struct {
	o, ids []int
	who    int
	want   []int
	id     int
	err    api.Errno
}

func TestTake(t *testing.T) {
	for i, c := range []call{
		{ids(0, 2, 0), ids(0, 2), 1, ids(1, 2, 1), 0, api.OK}, {ids(0, 2, 0), ids(0, 1), 1, nil, 1, api.ErrBusy},
		// Nobody's, who's already, another arm's, some of each.
		{ids(0, 0, 0), ids(0, 1, 2), 8, ids(8, 8, 8), 0, api.OK}, {ids(1, 1, 0), ids(0, 1), 1, ids(1, 1, 0), 0, api.OK}, {ids(1, 0, 2, 0), ids(0, 1, 3), 1, ids(1, 1, 2, 1), 0, api.OK}, {ids(1, 0, 2, 3), ids(0, 1, 2, 3), 1, nil, 2, api.ErrBusy}, {ids(1, 0, 2, 3), ids(2, 3), 3, nil, 2, api.ErrBusy}, {ids(1, 0, 2, 3), ids(1, 3), 3, ids(1, 3, 2, 3), 0, api.OK}, {ids(2, 2), ids(0), 1, nil, 0, api.ErrBusy}, {ids(2, 2), ids(1), 1, nil, 1, api.ErrBusy}, {ids(8, 0), ids(0), 7, nil, 0, api.ErrBusy},
		// No ids, no owners.
		{ids(0, 2), nil, 1, ids(0, 2), 0, api.OK}, {ids(0, 2), ids(), 1, ids(0, 2), 0, api.OK}, {nil, nil, 1, nil, 0, api.OK}, {ids(), ids(), 8, nil, 0, api.OK}, {nil, ids(0), 1, nil, 0, api.ErrNone}, {nil, ids(-1), 1, nil, -1, api.ErrNone},
		// Places that are not there.
		{ids(0, 0), ids(2), 1, nil, 2, api.ErrNone}, {ids(0, 0), ids(1, 2), 1, nil, 2, api.ErrNone}, {ids(0, 0), ids(2, 3), 1, nil, 2, api.ErrNone}, {ids(0, 0), ids(0, most), 1, nil, most, api.ErrNone}, {ids(0, 0), ids(-1, 0), 1, nil, -1, api.ErrNone}, {ids(0, 0), ids(-9, -1, 5), 1, nil, -9, api.ErrNone}, {ids(0, 0), ids(least, 0), 1, nil, least, api.ErrNone}, {ids(0, 0), ids(1<<32, 1<<33), 1, nil, 1 << 32, api.ErrNone},
		// ErrNone is ahead of ErrBusy, whichever id is the lesser.
		{ids(2, 2), ids(0, 1, 2), 1, nil, 2, api.ErrNone}, {ids(2, 2), ids(-1, 0), 1, nil, -1, api.ErrNone}, {ids(2, 2), ids(0, 7, 8), 1, nil, 7, api.ErrNone},
		// Arms that are none.
		{ids(0, 0), ids(0), 0, nil, 0, api.ErrArg}, {ids(0, 0), ids(0), -1, nil, 0, api.ErrArg}, {ids(0, 0), ids(0), 9, nil, 0, api.ErrArg}, {ids(0, 0), ids(1), 8, ids(0, 8), 0, api.OK}, {ids(0, 0), ids(1), 1, ids(0, 1), 0, api.OK}, {ids(0, 0), nil, 0, nil, 0, api.ErrArg}, {ids(0, 0), ids(0), least, nil, 0, api.ErrArg}, {ids(0, 0), ids(0), most, nil, 0, api.ErrArg},
		// ErrArg is ahead of all.
		{ids(0, 0), ids(1, 0), 1, nil, 0, api.ErrArg}, {ids(0, 0), ids(5, 5), 1, nil, 0, api.ErrArg}, {ids(2, 2), ids(1, 1), 1, nil, 0, api.ErrArg}, {ids(2, 2), ids(5), 9, nil, 0, api.ErrArg}, {ids(9, 2), ids(5), 1, nil, 0, api.ErrArg}, {ids(0, -1), ids(0), 1, nil, 0, api.ErrArg}, {ids(2, 2), ids(7, -1), 1, nil, 0, api.ErrArg},
	} {
		if got, id, err := owner.Take(c.o, c.ids, c.who); !slices.Equal(got, c.want) || id != c.id || err != c.err {
			t.Error(i, got, id, err)
		}
	}
}

func TestGive(t *testing.T) {
	for i, c := range []call{
		{ids(1, 2, 1), ids(0, 2), 1, ids(0, 2, 0), 0, api.OK}, {ids(1, 2, 1), ids(2), 1, ids(1, 2, 0), 0, api.OK}, {ids(8, 8), ids(0, 1), 8, ids(0, 0), 0, api.OK},
		// Nobody's, another arm's, some of each.
		{ids(1, 2, 1), ids(0, 1), 1, nil, 1, api.ErrOwner}, {ids(1, 0, 2), ids(0, 1, 2), 1, nil, 1, api.ErrOwner}, {ids(0, 0), ids(0), 1, nil, 0, api.ErrOwner}, {ids(0, 0), ids(1), 1, nil, 1, api.ErrOwner}, {ids(2, 1), ids(0, 1), 1, nil, 0, api.ErrOwner}, {ids(1, 1, 3, 0), ids(0, 2, 3), 1, nil, 2, api.ErrOwner},
		// No ids, no owners.
		{ids(0, 2), nil, 1, ids(0, 2), 0, api.OK}, {ids(0, 1), ids(), 1, ids(0, 1), 0, api.OK}, {nil, nil, 1, nil, 0, api.OK}, {nil, ids(0), 1, nil, 0, api.ErrNone},
		// Places that are not there, also behind what is not who's.
		{ids(1, 1), ids(2), 1, nil, 2, api.ErrNone}, {ids(1, 1), ids(-1, 0), 1, nil, -1, api.ErrNone}, {ids(1, 1), ids(0, 1, 7, most), 1, nil, 7, api.ErrNone}, {ids(2, 0), ids(0, 1, 2), 1, nil, 2, api.ErrNone}, {ids(1, 1), ids(least), 1, nil, least, api.ErrNone},
		// Arms that are none: what nobody owns cannot be given by it.
		{ids(0, 0), ids(0), 0, nil, 0, api.ErrArg}, {ids(0, 0), ids(0), 9, nil, 0, api.ErrArg}, {ids(0, 0), ids(0), -1, nil, 0, api.ErrArg}, {ids(1, 8), ids(1), 8, ids(1, 0), 0, api.OK},
		{ids(1, 1), ids(1, 0), 1, nil, 0, api.ErrArg}, {ids(1, 1), ids(0, 0), 1, nil, 0, api.ErrArg}, {ids(1, 9), ids(0), 1, nil, 0, api.ErrArg}, {ids(9, 9), ids(0), 9, nil, 0, api.ErrArg}, {ids(2, 2), ids(7, 7), 1, nil, 0, api.ErrArg}, {ids(-1, 1), ids(7), 1, nil, 0, api.ErrArg},
	} {
		if got, id, err := owner.Give(c.o, c.ids, c.who); !slices.Equal(got, c.want) || id != c.id || err != c.err {
			t.Error(i, got, id, err)
		}
	}
}

// must is what Take (to is who) or Give (to is 0) must answer: each id that is wrong is looked for by itself, and the least one kept.
func must(o, set []int, who, to int) ([]int, int, api.Errno) {
	leastOf := func(wrong func(id int) bool) (int, bool) {
		var l []int
		for _, id := range set {
			if wrong(id) {
				l = append(l, id)
			}
		}
		if len(l) == 0 {
			return 0, false
		}
		return slices.Min(l), true
	}
	if who < 1 || who > 8 {
		return nil, 0, api.ErrArg
	}
	if id, ok := leastOf(func(id int) bool { return id < 0 || id >= len(o) }); ok {
		return nil, id, api.ErrNone
	}
	if to == 0 {
		if id, ok := leastOf(func(id int) bool { return o[id] != who }); ok {
			return nil, id, api.ErrOwner
		}
	} else if id, ok := leastOf(func(id int) bool { return o[id] != who && o[id] != 0 }); ok {
		return nil, id, api.ErrBusy
	}
	l := slices.Clone(o)
	for id := range l {
		if slices.Contains(set, id) {
			l[id] = to
		}
	}
	return l, 0, api.OK
}

func TestTakeAndGiveOfAll(t *testing.T) {
	for _, o := range rightOwners() {
		for _, set := range idSets() {
			for who := -1; who <= arms+1; who++ {
				want, wantId, wantErr := must(o, set, who, who)
				if got, id, err := owner.Take(o, set, who); !slices.Equal(got, want) || id != wantId || err != wantErr {
					t.Error("take", o, set, who, got, id, err)
				}
				want, wantId, wantErr = must(o, set, who, 0)
				if got, id, err := owner.Give(o, set, who); !slices.Equal(got, want) || id != wantId || err != wantErr {
					t.Error("give", o, set, who, got, id, err)
				}
			}
		}
	}
}

func TestWrongArguments(t *testing.T) {
	check := func(o, set []int, who int) {
		if got, id, err := owner.Take(o, set, who); len(got) != 0 || id != 0 || err != api.ErrArg {
			t.Error("take", o, set, who, got, id, err)
		}
		if got, id, err := owner.Give(o, set, who); len(got) != 0 || id != 0 || err != api.ErrArg {
			t.Error("give", o, set, who, got, id, err)
		}
	}
	for who := -1; who <= arms+1; who++ {
		for _, o := range wrongOwners() {
			for _, set := range idSets() {
				check(o, set, who)
			}
		}
		for _, set := range notSets() {
			for _, o := range append(rightOwners(), wrongOwners()...) {
				check(o, set, who)
			}
		}
	}
}

// P14.3

func TestOf(t *testing.T) {
	o := ids(0, 2, 0, 8, 2, -1, 9, most, least, 2)
	for who, want := range map[int][]int{0: {0, 2}, 1: nil, 2: {1, 4, 9}, 8: {3}, -1: {5}, 9: {6}, most: {7}, least: {8}, 7: nil, -2: nil, 1<<32 + 2: nil} {
		if l := owner.Of(o, who); !slices.Equal(l, want) {
			t.Error(who, l)
		}
	}
	for who := -1; who <= arms+1; who++ {
		for _, o := range append(rightOwners(), wrongOwners()...) {
			var want []int
			for id := len(o) - 1; id >= 0; id-- {
				if o[id] == who {
					want = append(ids(id), want...)
				}
			}
			if l := owner.Of(o, who); !slices.Equal(l, want) {
				t.Error(o, who, l)
			}
		}
	}
}

func TestLacks(t *testing.T) {
	o := ids(1, 0, 2, 1, 1)
	for i, c := range []struct {
		o, ids []int
		who    int
		id     int
		ok     bool
	}{
		{o, nil, 1, 0, false}, {o, ids(), 1, 0, false}, {o, ids(0, 3, 4), 1, 0, false}, {o, ids(0, 1, 3), 1, 1, true}, {o, ids(2, 1), 1, 2, true}, {o, ids(1, 2), 1, 1, true}, {o, ids(4, 0, 4, 3, 0), 1, 0, false}, {o, ids(4, 2, 2, 1), 1, 2, true}, {o, ids(0, 0), 2, 0, true}, {o, ids(2, 2, 2), 2, 0, false},
		{o, ids(5), 1, 5, true}, {o, ids(-1), 1, -1, true}, {o, ids(3, 5, -1), 1, 5, true}, {o, ids(3, -1, 5), 1, -1, true}, {o, ids(most), 1, most, true}, {o, ids(0, least), 1, least, true}, {o, ids(1<<32, 0), 1, 1 << 32, true},
		{o, ids(1), 0, 0, false}, {o, ids(1, 0), 0, 0, true}, {o, ids(0), 9, 0, true}, {o, ids(0), -1, 0, true}, {nil, ids(0), 1, 0, true}, {nil, nil, 1, 0, false}, {nil, ids(3), 0, 3, true}, {ids(), ids(-7), 1, -7, true},
		{ids(9, -1, 9), ids(2, 0), 9, 0, false}, {ids(9, -1, 9), ids(2, 0, 1), 9, 1, true}, {ids(9, -1, 9), ids(1), -1, 0, false},
	} {
		if id, ok := owner.Lacks(c.o, c.ids, c.who); id != c.id || ok != c.ok {
			t.Error(i, id, ok)
		}
	}
}

func TestLacksOfAll(t *testing.T) {
	for _, o := range append(rightOwners(), wrongOwners()...) {
		for who := -1; who <= arms+1; who++ {
			for _, l := range append(idSets(), notSets()...) {
				have := owner.Of(o, who)
				at := slices.IndexFunc(l, func(id int) bool { return !slices.Contains(have, id) })
				want := 0
				if at >= 0 {
					want = l[at]
				}
				if id, ok := owner.Lacks(o, l, who); id != want || ok != (at >= 0) {
					t.Error(o, l, who, id, ok)
				}
			}
		}
	}
}

// R3

// roomy is a list with room behind its end, and numbers in that.
func roomy(l []int) []int { return append(slices.Clone(l), 77, 78, 79)[:len(l)] }

// kept tells whether a list made by roomy is as it was, with the room behind it.
func kept(l, was []int) bool {
	return slices.Equal(l[:len(l)+3], append(slices.Clone(was), 77, 78, 79))
}

// spoil overwrites an answer and the room behind it.
func spoil(l []int) {
	l = l[:cap(l)]
	for i := range l {
		l[i] = 55
	}
}

func TestKeepsArguments(t *testing.T) {
	for _, o := range append(rightOwners(), wrongOwners()[:3]...) {
		for _, set := range append(idSets(), notSets()...) {
			for _, who := range []int{0, 1, 3, 8, 9} {
				p, l := roomy(o), roomy(set)
				owner.Right(p)
				owner.Lacks(p, l, who)
				taken, _, _ := owner.Take(p, l, who)
				given, _, _ := owner.Give(p, l, who)
				for _, x := range [][]int{taken, given, owner.Of(p, who)} {
					spoil(x)
				}
				if !kept(p, o) || !kept(l, set) {
					t.Fatal("changed", o, set, who, p, l)
				}
			}
		}
	}
}

func TestKeepsAnswers(t *testing.T) {
	o, set := ids(0, 2, 1, 0), ids(0, 2)
	none := ids()
	taken, _, _ := owner.Take(o, set, 1)
	same, _, _ := owner.Take(o, none, 1)
	given, _, _ := owner.Give(o, ids(2), 1)
	of := owner.Of(o, 0)
	spoil(o)
	spoil(set)
	for i, c := range [][2][]int{{taken, ids(1, 2, 1, 0)}, {same, ids(0, 2, 1, 0)}, {given, ids(0, 2, 0, 0)}, {of, ids(0, 3)}} {
		if !slices.Equal(c[0], c[1]) {
			t.Error(i, c[0])
		}
	}
}

// P14.4

// anySet is some of the ids below n.
func anySet(r *rand.Rand, n int) []int {
	var s []int
	for id := range n {
		if r.Intn(3) == 0 {
			s = append(s, id)
		}
	}
	return s
}

func TestGivenBack(t *testing.T) {
	r := rand.New(rand.NewSource(1))
	for range 20000 {
		o := make([]int, r.Intn(12))
		for i := range o {
			o[i] = max(0, r.Intn(16)-7)
		}
		set, who := anySet(r, len(o)), 1+r.Intn(arms)
		nobodys := true
		for _, id := range set {
			nobodys = nobodys && o[id] == 0
		}
		taken, _, err := owner.Take(o, set, who)
		if err != api.OK {
			continue
		}
		if _, ok := owner.Lacks(taken, set, who); ok || !owner.Right(taken) {
			t.Fatal("lacks", o, set, who, taken)
		}
		given, id, err := owner.Give(taken, set, who)
		if err != api.OK || id != 0 || !owner.Right(given) || slices.Equal(given, o) != nobodys {
			t.Fatal(o, set, who, taken, given, err)
		}
	}
}

// TestAnyOrder has two arms that take what is apart: either one is first.
func TestAnyOrder(t *testing.T) {
	r := rand.New(rand.NewSource(2))
	done := 0
	for range 20000 {
		o := make([]int, 4+r.Intn(9))
		for i := range o {
			o[i] = max(0, r.Intn(10)-7)
		}
		a, all := anySet(r, len(o)), anySet(r, len(o))
		b := slices.DeleteFunc(all, func(id int) bool { return slices.Contains(a, id) })
		one, _, errA := owner.Take(o, a, 1)
		both, _, errAB := owner.Take(one, b, 2)
		other, _, errB := owner.Take(o, b, 2)
		turned, _, errBA := owner.Take(other, a, 1)
		if errA != api.OK || errB != api.OK {
			continue
		}
		done++
		if errAB != api.OK || errBA != api.OK || !slices.Equal(both, turned) {
			t.Fatal(o, a, b, both, turned)
		}
	}
	if done < 1000 {
		t.Error(done)
	}
}
