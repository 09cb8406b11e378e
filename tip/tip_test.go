package tip_test

import (
	"math/rand"
	"slices"
	"testing"

	"deckhand/api"
	"deckhand/tip"
)

const (
	most  = 1<<63 - 1
	least = -1 << 63
	arms  = 8 // the greatest arm
)

func of(state, by int) api.Tip { return api.Tip{State: state, By: by} }

var (
	fresh = of(1, 0)
	spent = of(3, 0)
)

func held(by int) api.Tip { return of(2, by) }

// rightTips are all tips that are right.
func rightTips() []api.Tip {
	l := []api.Tip{fresh, spent}
	for by := 1; by <= arms; by++ {
		l = append(l, held(by))
	}
	return l
}

// numbers are states and arms, and numbers that are none.
var numbers = []int{least, -1 << 32, -2, -1, 0, 1, 2, 3, 4, 5, 6, 7, 8, 9, 10, 1<<32 + 1, 1<<32 + 2, most - 1, most}

// wrongTips are tips that are not right.
func wrongTips() []api.Tip {
	var l []api.Tip
	for _, state := range numbers {
		for _, by := range numbers {
			if x := of(state, by); !slices.Contains(rightTips(), x) {
				l = append(l, x)
			}
		}
	}
	return l
}

func isArm(by int) bool { return by == min(max(by, 1), 8) }

// P12.1

func TestRight(t *testing.T) {
	for _, x := range []api.Tip{{State: api.TipFresh}, {State: api.TipSpent}, {State: api.TipHeld, By: 1}, {State: api.TipHeld, By: api.MaxArms}} {
		if !tip.Right(x) {
			t.Error(x)
		}
	}
	for _, x := range []api.Tip{{}, of(0, 1), of(1, 1), of(1, 8), of(1, -1), of(2, 0), of(2, -1), of(2, 9), of(3, 1), of(3, -1), of(4, 0), of(4, 1), of(-1, 0), of(-1, 1), of(1<<32+1, 0), of(1, 1<<32), of(2, 1<<32+1)} {
		if tip.Right(x) {
			t.Error(x)
		}
	}
	for _, x := range rightTips() {
		if !tip.Right(x) {
			t.Error(x)
		}
	}
	for _, x := range wrongTips() {
		if tip.Right(x) {
			t.Error(x)
		}
	}
}

func TestTakeAndDrop(t *testing.T) {
	for i, c := range []struct {
		do   func(api.Tip, int) (api.Tip, api.Errno)
		tip  api.Tip
		by   int
		want api.Tip
		err  api.Errno
	}{
		{tip.Take, fresh, 1, held(1), api.OK}, {tip.Take, fresh, 2, held(2), api.OK}, {tip.Take, fresh, 8, held(8), api.OK}, {tip.Take, fresh, 0, api.Tip{}, api.ErrArg}, {tip.Take, fresh, -1, api.Tip{}, api.ErrArg}, {tip.Take, fresh, 9, api.Tip{}, api.ErrArg}, {tip.Take, held(2), 2, api.Tip{}, api.ErrFresh}, {tip.Take, held(2), 1, api.Tip{}, api.ErrFresh}, {tip.Take, held(2), 0, api.Tip{}, api.ErrArg}, {tip.Take, held(2), 9, api.Tip{}, api.ErrArg}, {tip.Take, spent, 1, api.Tip{}, api.ErrFresh}, {tip.Take, spent, 8, api.Tip{}, api.ErrFresh}, {tip.Take, spent, 0, api.Tip{}, api.ErrArg}, {tip.Take, api.Tip{}, 1, api.Tip{}, api.ErrTip}, {tip.Take, api.Tip{}, 0, api.Tip{}, api.ErrTip}, {tip.Take, of(1, 1), 1, api.Tip{}, api.ErrTip}, {tip.Take, of(2, 0), 9, api.Tip{}, api.ErrTip},
		{tip.Drop, held(1), 1, spent, api.OK}, {tip.Drop, held(2), 2, spent, api.OK}, {tip.Drop, held(8), 8, spent, api.OK}, {tip.Drop, held(2), 1, api.Tip{}, api.ErrHeld}, {tip.Drop, held(2), 3, api.Tip{}, api.ErrHeld}, {tip.Drop, held(1), 0, api.Tip{}, api.ErrArg}, {tip.Drop, held(8), 9, api.Tip{}, api.ErrArg}, {tip.Drop, held(1), -1, api.Tip{}, api.ErrArg}, {tip.Drop, fresh, 1, api.Tip{}, api.ErrHeld}, {tip.Drop, fresh, 8, api.Tip{}, api.ErrHeld}, {tip.Drop, fresh, 0, api.Tip{}, api.ErrArg}, {tip.Drop, spent, 1, api.Tip{}, api.ErrHeld}, {tip.Drop, spent, 0, api.Tip{}, api.ErrArg}, {tip.Drop, api.Tip{}, 1, api.Tip{}, api.ErrTip}, {tip.Drop, api.Tip{}, 0, api.Tip{}, api.ErrTip}, {tip.Drop, of(2, 9), 9, api.Tip{}, api.ErrTip}, {tip.Drop, of(2, 0), 0, api.Tip{}, api.ErrTip}, {tip.Drop, of(3, 1), 1, api.Tip{}, api.ErrTip},
	} {
		if got, err := c.do(c.tip, c.by); got != c.want || err != c.err {
			t.Error(i, got, err)
		}
	}
}

func TestTakeAndDropOfAll(t *testing.T) {
	for _, x := range append(rightTips(), wrongTips()...) {
		for _, by := range numbers {
			taken, wantTake := api.Tip{}, api.OK
			dropped, wantDrop := api.Tip{}, api.OK
			switch {
			case !slices.Contains(rightTips(), x):
				wantTake, wantDrop = api.ErrTip, api.ErrTip
			case !isArm(by):
				wantTake, wantDrop = api.ErrArg, api.ErrArg
			case x == fresh:
				taken, wantDrop = held(by), api.ErrHeld
			case x == held(by):
				wantTake, dropped = api.ErrFresh, spent
			default:
				wantTake, wantDrop = api.ErrFresh, api.ErrHeld
			}
			if got, err := tip.Take(x, by); got != taken || err != wantTake {
				t.Error("take", x, by, got, err)
			}
			if got, err := tip.Drop(x, by); got != dropped || err != wantDrop {
				t.Error("drop", x, by, got, err)
			}
		}
	}
}

// P12.2

func TestNext(t *testing.T) {
	l := []api.Tip{spent, fresh, of(1, 1), held(3), fresh, {}, of(4, 0), fresh}
	for from, want := range map[int]int{least: 1, -1: 1, 0: 1, 1: 1, 2: 4, 3: 4, 4: 4, 5: 7, 6: 7, 7: 7} {
		if i, ok := tip.Next(l, from); i != want || !ok {
			t.Error(from, i, ok)
		}
	}
	for _, from := range []int{8, 9, 1 << 32, most} {
		if i, ok := tip.Next(l, from); i != 0 || ok {
			t.Error(from, i, ok)
		}
	}
	for _, l := range [][]api.Tip{nil, {}, {spent}, {held(1)}, {of(1, 1)}, {{}, of(1, -1), held(9)}} {
		for _, from := range []int{least, -1, 0, 1, most} {
			if i, ok := tip.Next(l, from); i != 0 || ok {
				t.Error(l, from, i, ok)
			}
		}
	}
	for _, from := range []int{-1, 0} {
		if i, ok := tip.Next([]api.Tip{fresh, fresh}, from); i != 0 || !ok {
			t.Error(from, i, ok)
		}
	}
	if i, ok := tip.Next([]api.Tip{fresh, spent}, 1); i != 0 || ok {
		t.Error(i, ok)
	}
}

func TestHeld(t *testing.T) {
	l := []api.Tip{spent, of(1, 2), of(3, 2), held(0), held(9), held(2), fresh, held(8), held(2), held(1), of(2, -1)}
	for by, want := range map[int]int{1: 9, 2: 5, 8: 7} {
		if i, ok := tip.Held(l, by); i != want || !ok {
			t.Error(by, i, ok)
		}
	}
	for _, by := range []int{least, -1, 0, 3, 7, 9, 10, 1<<32 + 1, most} {
		if i, ok := tip.Held(l, by); i != 0 || ok {
			t.Error(by, i, ok)
		}
	}
	for _, by := range numbers {
		for _, l := range [][]api.Tip{nil, {}, {fresh}, {spent}, {{}}} {
			if i, ok := tip.Held(l, by); i != 0 || ok {
				t.Error(l, by, i, ok)
			}
		}
	}
	if i, ok := tip.Held([]api.Tip{held(4)}, 4); i != 0 || !ok {
		t.Error(i, ok)
	}
}

func TestCount(t *testing.T) {
	for i, c := range []struct {
		l    []api.Tip
		want [3]int
	}{
		{nil, [3]int{}}, {[]api.Tip{}, [3]int{}}, {wrongTips(), [3]int{}}, {rightTips(), [3]int{1, 8, 1}},
		{[]api.Tip{fresh}, [3]int{1, 0, 0}}, {[]api.Tip{held(8)}, [3]int{0, 1, 0}}, {[]api.Tip{spent}, [3]int{0, 0, 1}},
		{[]api.Tip{spent, fresh, held(1), {}, fresh, of(4, 0), spent, held(1), of(2, 9), fresh, of(1, 1), spent, spent}, [3]int{3, 2, 4}},
	} {
		fresh, held, spent := tip.Count(c.l)
		if got := [3]int{fresh, held, spent}; got != c.want {
			t.Error(i, got)
		}
	}
}

// TestListsOfAll holds all three against what a look at each tip by itself tells.
func TestListsOfAll(t *testing.T) {
	r := rand.New(rand.NewSource(1))
	all := append(rightTips(), []api.Tip{{}, of(1, 3), of(2, 0), of(2, 9), of(3, 3), of(4, 0), of(-1, 0)}...)
	for range 3000 {
		l := make([]api.Tip, r.Intn(30))
		for i := range l {
			l[i] = all[r.Intn(len(all))]
		}
		handed := slices.Clone(l)
		for from := -2; from <= len(l)+2; from++ {
			want, wantOk := 0, false
			for i := len(l) - 1; i >= from && i >= 0; i-- {
				if l[i] == fresh {
					want, wantOk = i, true
				}
			}
			if i, ok := tip.Next(handed, from); i != want || ok != wantOk {
				t.Fatal("next", l, from, i, ok)
			}
		}
		for by := -1; by <= arms+1; by++ {
			want := slices.Index(l, held(by))
			wantOk := want >= 0 && isArm(by)
			if !wantOk {
				want = 0
			}
			if i, ok := tip.Held(handed, by); i != want || ok != wantOk {
				t.Fatal("held", l, by, i, ok)
			}
		}
		counts := map[int]int{}
		for _, x := range l {
			if slices.Contains(rightTips(), x) {
				counts[x.State]++
			}
		}
		if f, h, s := tip.Count(handed); f != counts[1] || h != counts[2] || s != counts[3] {
			t.Fatal("count", l, f, h, s)
		}
		if !slices.Equal(l, handed) {
			t.Fatal("written", l, handed)
		}
	}
}

// P12.3

func TestTakenAndDroppedOnce(t *testing.T) {
	r := rand.New(rand.NewSource(1))
	spentAll := 0
	for range 2000 {
		x, taker, drops := fresh, 0, 0
		for range 40 {
			by := r.Intn(arms+2) - 1
			do, take := tip.Take, true
			if r.Intn(2) == 0 {
				do, take = tip.Drop, false
			}
			next, err := do(x, by)
			switch {
			case err != api.OK:
				continue
			case take && taker != 0:
				t.Fatal("taken twice", x, by)
			case take:
				taker = by
			case by != taker || drops > 0:
				t.Fatal("dropped", x, by, taker, drops)
			default:
				drops++
			}
			x = next
			if !tip.Right(x) {
				t.Fatal("not right", x)
			}
		}
		spentAll += drops
	}
	if spentAll < 100 {
		t.Error("drops", spentAll)
	}
}
