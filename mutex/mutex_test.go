package mutex_test

import (
	"math/rand"
	"slices"
	"testing"

	"deckhand/api"
	"deckhand/mutex"
)

const (
	most  = 1<<63 - 1
	least = -1 << 63
	arms  = 8 // the greatest arm
)

// ids is a list of numbers, of a short form.
func ids(l ...int) []int { return l }

// wrongTables are lists that are no tables.
func wrongTables() [][]int {
	var l [][]int
	for _, who := range []int{-1, -2, arms + 1, arms + 2, 1 << 32, 1<<32 + 1, least, most} {
		l = append(l, ids(who), ids(who, 0, 0, 0), ids(0, who, 1, 2), ids(1, 2, 8, who), ids(who, who))
	}
	return l
}

// rightTables are lists that are.
func rightTables() [][]int {
	return [][]int{nil, {}, {0}, {1}, {8}, {0, 2, 0}, {0, 0, 0, 0, 0}, {1, 1, 1, 1}, {8, 0, 8, 1, 2, 0}, {0, 1, 2, 3, 4, 5, 6, 7, 8}, {8, 8, 8, 8, 8, 8, 8, 8, 8, 8}, {3, 0, 3, 0, 3, 0, 1}}
}

// P17.1

func TestRight(t *testing.T) {
	for _, l := range rightTables() {
		if !mutex.Right(l) {
			t.Error(l)
		}
	}
	for _, l := range wrongTables() {
		if mutex.Right(l) {
			t.Error(l)
		}
	}
	for who := -3; who <= arms+3; who++ {
		if right := who >= 0 && who <= 8; mutex.Right(ids(who)) != right || mutex.Right(ids(0, 8, who)) != right || mutex.Right(ids(0, who, 1, 0)) != right {
			t.Error(who)
		}
	}
}

func TestNew(t *testing.T) {
	for n := -3; n < 200; n++ {
		l := mutex.New(n)
		if len(l) != max(n, 0) || slices.ContainsFunc(l, func(who int) bool { return who != 0 }) || !mutex.Right(l) {
			t.Error(n, l)
		}
	}
	for _, n := range []int{least, -1 << 32} {
		if l := mutex.New(n); len(l) != 0 {
			t.Error(n, len(l))
		}
	}
	if l := mutex.New(300000); len(l) != 300000 || slices.Max(l) != 0 || slices.Min(l) != 0 {
		t.Error(len(l))
	}
	a, b := mutex.New(3), mutex.New(3)
	a[0], a[1], a[2] = 1, 2, 3
	if !slices.Equal(b, ids(0, 0, 0)) || !slices.Equal(mutex.New(3), ids(0, 0, 0)) {
		t.Error(b)
	}
}

// P17.2

// call is what is asked of Lock or Unlock, and what they answer.
type call struct {
	table   []int
	id, who int
	want    []int
	err     api.Errno
}

func TestLock(t *testing.T) {
	for i, c := range []call{
		{ids(0, 0, 0), 0, 1, ids(1, 0, 0), api.OK}, {ids(0, 0, 0), 2, 8, ids(0, 0, 8), api.OK}, {ids(0, 2, 0), 0, 1, ids(1, 2, 0), api.OK}, {ids(1, 0, 2), 1, 1, ids(1, 1, 2), api.OK}, {ids(0), 0, 8, ids(8), api.OK},
		// Held by who, held by another one.
		{ids(0, 2, 0), 1, 2, nil, api.ErrMine}, {ids(0, 2, 0), 1, 1, nil, api.ErrWait}, {ids(1, 0), 0, 1, nil, api.ErrMine}, {ids(1, 0), 0, 8, nil, api.ErrWait}, {ids(0, 8), 1, 8, nil, api.ErrMine}, {ids(0, 8), 1, 7, nil, api.ErrWait},
		// What is no place.
		{ids(0, 0), 2, 1, nil, api.ErrNone}, {ids(0, 0), 3, 1, nil, api.ErrNone}, {ids(0, 0), -1, 1, nil, api.ErrNone}, {ids(1, 1), -1, 1, nil, api.ErrNone}, {ids(2, 2), 2, 1, nil, api.ErrNone}, {ids(0, 0), least, 1, nil, api.ErrNone}, {ids(0, 0), most, 1, nil, api.ErrNone}, {ids(0, 0), 1 << 32, 1, nil, api.ErrNone}, {nil, 0, 1, nil, api.ErrNone}, {ids(), 0, 1, nil, api.ErrNone}, {nil, -1, 8, nil, api.ErrNone},
		// What is no arm.
		{ids(0, 0), 0, 0, nil, api.ErrArg}, {ids(0, 0), 0, -1, nil, api.ErrArg}, {ids(0, 0), 0, 9, nil, api.ErrArg}, {ids(0, 0), 0, least, nil, api.ErrArg}, {ids(0, 0), 0, most, nil, api.ErrArg}, {ids(1, 1), 0, 9, nil, api.ErrArg}, {nil, 0, 0, nil, api.ErrArg},
		// What is no table; ErrArg is ahead of all.
		{ids(9, 0), 1, 1, nil, api.ErrArg}, {ids(0, -1), 0, 1, nil, api.ErrArg}, {ids(-1, 1), 1, 1, nil, api.ErrArg}, {ids(0, 9), 5, 1, nil, api.ErrArg}, {ids(9, 9), 0, 9, nil, api.ErrArg}, {ids(9, 2), 1, 1, nil, api.ErrArg}, {ids(0, 0), 5, 0, nil, api.ErrArg}, {ids(0, 0), -1, 9, nil, api.ErrArg}, {ids(-1, -1), -1, -1, nil, api.ErrArg},
	} {
		if got, err := mutex.Lock(c.table, c.id, c.who); !slices.Equal(got, c.want) || err != c.err {
			t.Error(i, got, err)
		}
	}
}

func TestUnlock(t *testing.T) {
	for i, c := range []call{
		{ids(1, 0, 0), 0, 1, ids(0, 0, 0), api.OK}, {ids(0, 0, 8), 2, 8, ids(0, 0, 0), api.OK}, {ids(1, 1, 2), 1, 1, ids(1, 0, 2), api.OK}, {ids(8), 0, 8, ids(0), api.OK},
		// Held by another one, held by nobody.
		{ids(0, 2, 0), 1, 1, nil, api.ErrNot}, {ids(0, 2, 0), 0, 2, nil, api.ErrNot}, {ids(0, 2, 0), 2, 1, nil, api.ErrNot}, {ids(8, 1), 0, 1, nil, api.ErrNot}, {ids(1, 8), 0, 8, nil, api.ErrNot},
		// What is no place.
		{ids(1, 1), 2, 1, nil, api.ErrNone}, {ids(1, 1), 3, 1, nil, api.ErrNone}, {ids(1, 1), -1, 1, nil, api.ErrNone}, {ids(1, 1), least, 1, nil, api.ErrNone}, {ids(1, 1), most, 1, nil, api.ErrNone}, {ids(1, 1), 1 << 32, 1, nil, api.ErrNone}, {nil, 0, 1, nil, api.ErrNone}, {ids(), 0, 1, nil, api.ErrNone},
		// What is no arm: nobody gives nothing back.
		{ids(0, 0), 0, 0, nil, api.ErrArg}, {ids(1, 1), 0, -1, nil, api.ErrArg}, {ids(1, 1), 0, 9, nil, api.ErrArg}, {ids(1, 1), 0, least, nil, api.ErrArg}, {ids(1, 1), 0, most, nil, api.ErrArg}, {nil, 0, 0, nil, api.ErrArg},
		// What is no table; ErrArg is ahead of all.
		{ids(9, 1), 1, 1, nil, api.ErrArg}, {ids(1, -1), 0, 1, nil, api.ErrArg}, {ids(9, 9), 0, 9, nil, api.ErrArg}, {ids(-1, 1), 0, -1, nil, api.ErrArg}, {ids(1, 9), 5, 1, nil, api.ErrArg}, {ids(9, 2), 1, 1, nil, api.ErrArg}, {ids(1, 1), 5, 9, nil, api.ErrArg}, {ids(1, 1), -1, 0, nil, api.ErrArg},
	} {
		if got, err := mutex.Unlock(c.table, c.id, c.who); !slices.Equal(got, c.want) || err != c.err {
			t.Error(i, got, err)
		}
	}
}

// TestLockAndUnlockOfAll looks at all small tables, with each id and arm.
func TestLockAndUnlockOfAll(t *testing.T) {
	holders := ids(0, 1, 2, 8)
	for n := range 64 {
		table := ids(holders[n%4], holders[n/4%4], holders[n/16])
		for id := range 3 {
			for who := 1; who <= arms; who++ {
				want, err := slices.Clone(table), api.OK
				switch want[id] {
				case 0:
					want[id] = who
				case who:
					want, err = nil, api.ErrMine
				default:
					want, err = nil, api.ErrWait
				}
				if got, no := mutex.Lock(table, id, who); !slices.Equal(got, want) || no != err {
					t.Fatal("lock", table, id, who, got, no)
				}
				want, err = slices.Clone(table), api.OK
				if want[id] == who {
					want[id] = 0
				} else {
					want, err = nil, api.ErrNot
				}
				if got, no := mutex.Unlock(table, id, who); !slices.Equal(got, want) || no != err {
					t.Fatal("unlock", table, id, who, got, no)
				}
			}
		}
	}
}

func TestHeld(t *testing.T) {
	for i, c := range []struct {
		table []int
		who   int
		want  []int
	}{
		{ids(0, 2, 0), 2, ids(1)}, {ids(0, 2, 0), 0, ids(0, 2)}, {ids(0, 2, 0), 1, nil}, {ids(3, 0, 3, 8, 3), 3, ids(0, 2, 4)}, {ids(3, 0, 3, 8, 3), 8, ids(3)}, {ids(1, 1, 1), 1, ids(0, 1, 2)}, {nil, 1, nil}, {ids(), 0, nil},
		// Whatever the table and who are.
		{ids(9, 1, 9), 9, ids(0, 2)}, {ids(-1, 1, -1), -1, ids(0, 2)}, {ids(-1, 1, -1), 1, ids(1)}, {ids(least, most), least, ids(0)}, {ids(least, most), most, ids(1)}, {ids(0, 1), 9, nil}, {ids(0, 1), -1, nil}, {ids(9, 0), 0, ids(1)}, {ids(1, 1<<32+1), 1, ids(0)},
	} {
		if got := mutex.Held(c.table, c.who); !slices.Equal(got, c.want) {
			t.Error(i, got)
		}
	}
}

// P17.3

// waitCase is a table, waits, who is stuck, and whether the waits are ordered.
type waitCase struct {
	table, waits []int
	stuck        []int
	ordered      bool
}

// checkWaits looks at what Stuck and Ordered answer.
func checkWaits(t *testing.T, l []waitCase) {
	t.Helper()
	for i, c := range l {
		if got := mutex.Stuck(c.table, c.waits); !slices.Equal(got, c.stuck) {
			t.Error(i, "stuck", got)
		}
		if got := mutex.Ordered(c.table, c.waits); got != c.ordered {
			t.Error(i, "ordered", got)
		}
	}
}

// waitsFor is so many waits for one id.
func waitsFor(id, n int) []int { return slices.Repeat(ids(id), n) }

func TestWaits(t *testing.T) {
	checkWaits(t, []waitCase{
		// The chapter's example.
		{ids(1, 2, 0), ids(1, 0), ids(1, 2), false}, {ids(1, 2, 0), ids(1, 2), nil, true},
		// Nobody waits.
		{nil, nil, nil, true}, {ids(), ids(), nil, true}, {ids(1, 2), nil, nil, true}, {ids(1, 2), ids(), nil, true}, {ids(1, 2), ids(-1, -1), nil, true}, {ids(1, 2), ids(2, 2), nil, true}, {ids(1, 2), ids(least, most), nil, true}, {nil, ids(0, 0), nil, true}, {nil, waitsFor(0, 8), nil, true}, {ids(1, 2), ids(1<<32, 1<<32+1), nil, true},
		// What nobody holds.
		{ids(0, 0), ids(0, 1), nil, true}, {ids(0, 0), ids(1, 1), nil, true}, {ids(0, 1), ids(0), nil, false}, {ids(1, 0), ids(1), nil, true}, {ids(0, 0), waitsFor(1, 8), nil, true},
		// What it holds itself.
		{ids(1, 0), ids(0), ids(1), false}, {ids(0, 1), ids(1), ids(1), false}, {ids(0, 8), ids(-1, -1, -1, -1, -1, -1, -1, 1), ids(8), false}, {ids(1, 1), ids(0), ids(1), false}, {ids(1, 1), ids(1), ids(1), false}, {ids(1, 0), ids(0, 0), ids(1, 2), false}, {ids(1, 0), ids(-1, 0), nil, true},
		// The table's last place, and one more.
		{ids(0, 2), ids(1, -1), nil, true}, {ids(0, 2), ids(1, 1), ids(1, 2), false}, {ids(0, 2), ids(1, 2), nil, true}, {ids(0, 2), ids(2, 1), ids(2), false},
		// Who holds something is beyond the list of waits.
		{ids(2, 1), ids(0), nil, false}, {ids(1, 2), ids(1), nil, true}, {ids(8, 8), ids(0, 1, 1), nil, true}, {ids(8, 3, 8), ids(0, 1, 2), nil, true}, {ids(3, 2), ids(1, 0), nil, false}, {ids(1, 3, 2), ids(1, 0), nil, false},
	})
}

func TestRings(t *testing.T) {
	checkWaits(t, []waitCase{
		// Rings of two, of three, of all.
		{ids(2, 1), ids(0, 1), ids(1, 2), false}, {ids(0, 3, 1), ids(1, -1, 2), ids(1, 3), false}, {ids(1, 2, 3), ids(1, 2, 0), ids(1, 2, 3), false}, {ids(3, 2, 1), ids(0, 2, 1), ids(1, 2, 3), false}, {ids(1, 2, 3, 4, 5, 6, 7, 8), ids(1, 2, 3, 4, 5, 6, 7, 0), ids(1, 2, 3, 4, 5, 6, 7, 8), false}, {ids(8, 1, 2, 3, 4, 5, 6, 7), ids(0, 1, 2, 3, 4, 5, 6, 7), ids(1, 2, 3, 4, 5, 6, 7, 8), false},
		// Two rings, and one beside who gets on.
		{ids(1, 2, 3, 4), ids(1, 0, 3, 2), ids(1, 2, 3, 4), false}, {ids(1, 2, 3, 4), ids(1, 0, 3, 4), ids(1, 2), false}, {ids(1, 2, 3, 4), ids(2, 3, 0, -1), ids(1, 3), false},
		// Rows that end at who waits for nothing.
		{ids(1, 2, 3, 4, 5, 6, 7, 8), ids(1, 2, 3, 4, 5, 6, 7), nil, true}, {ids(1, 2, 3, 4, 5, 6, 7, 8), ids(1, 2, 3, 4, 5, 6, 7, 8), nil, true}, {ids(1, 2, 3, 4, 5, 6, 7, 8, 0), ids(1, 2, 3, 4, 5, 6, 7, 8), nil, true}, {ids(8, 7, 6, 5, 4, 3, 2, 1), ids(-1, 7, 6, 5, 4, 3, 2, 1), nil, true}, {ids(1, 2, 3, 4, 5, 6, 7, 8), ids(-1, 0, 1, 2, 3, 4, 5, 6), nil, false}, {ids(8, 1, 2, 3, 4, 5, 6, 7), ids(0, 1, 2, 3, 4, 5, 6, -1), nil, false},
		// Rows that end at a ring.
		{ids(1, 2, 3, 4, 5, 6, 7, 8), ids(1, 2, 3, 4, 5, 6, 7, 7), ids(1, 2, 3, 4, 5, 6, 7, 8), false}, {ids(1, 2, 3, 4, 5, 6, 7, 8), ids(1, 2, 3, 4, 5, 6, 7, 6), ids(1, 2, 3, 4, 5, 6, 7, 8), false}, {ids(1, 2, 3, 4, 5, 6, 7, 8), ids(0, 0, 1, 2, 3, 4, 5, 6), ids(1, 2, 3, 4, 5, 6, 7, 8), false}, {ids(1, 2, 3, 4), ids(1, 0, 0, 2), ids(1, 2, 3, 4), false}, {ids(1, 2, 3, 4), ids(1, 0, 0, -1), ids(1, 2, 3), false}, {ids(1, 2, 3, 4), ids(1, 0, 3, -1), ids(1, 2), false},
		// Many wait for one.
		{ids(8, 0), waitsFor(0, 7), nil, true}, {ids(8, 0), waitsFor(0, 8), ids(1, 2, 3, 4, 5, 6, 7, 8), false}, {ids(1, 0), append(ids(1), waitsFor(0, 7)...), nil, true}, {ids(0, 1), append(ids(0), waitsFor(1, 7)...), nil, false},
	})
}

func TestWrongWaits(t *testing.T) {
	var l []waitCase
	for _, table := range wrongTables() {
		for _, waits := range [][]int{nil, ids(0), ids(0, 0), ids(-1), waitsFor(0, 8), waitsFor(0, 9)} {
			l = append(l, waitCase{table, waits, nil, false})
		}
	}
	// Just so many waits as there may be arms, and one more.
	l = append(l, waitCase{ids(1), waitsFor(-1, 8), nil, true}, waitCase{ids(1), waitsFor(0, 8), ids(1, 2, 3, 4, 5, 6, 7, 8), false}, waitCase{ids(1), waitsFor(-1, 9), nil, false}, waitCase{ids(1), waitsFor(0, 9), nil, false}, waitCase{ids(0), waitsFor(0, 8), nil, true}, waitCase{ids(0), waitsFor(0, 9), nil, false}, waitCase{nil, waitsFor(-1, 9), nil, false}, waitCase{nil, waitsFor(-1, 300), nil, false})
	checkWaits(t, l)
}

// ahead is who an arm waits for; 0, if that is nobody.
func ahead(table, waits []int, who int) int {
	if who > len(waits) || waits[who-1] < 0 || waits[who-1] >= len(table) {
		return 0
	}
	return table[waits[who-1]]
}

// stuck is who comes to nobody who waits for nothing, however far it goes from one to whom that one waits for.
func stuck(table, waits []int) []int {
	var l []int
	for who := 1; who <= arms; who++ {
		at := who
		for range arms + 1 {
			if at != 0 {
				at = ahead(table, waits, at)
			}
		}
		if at != 0 {
			l = append(l, who)
		}
	}
	return l
}

// ordered tells whether waits are, by looking at each arm and each place.
func ordered(table, waits []int) bool {
	for i, wait := range waits {
		for id, who := range table {
			if wait >= 0 && wait < len(table) && who == i+1 && id >= wait {
				return false
			}
		}
	}
	return true
}

// checkBook looks whether Stuck and Ordered answer what the long way gives, and P17.4.
func checkBook(t *testing.T, table, waits []int) {
	t.Helper()
	got, inOrder := mutex.Stuck(table, waits), mutex.Ordered(table, waits)
	if want := stuck(table, waits); !slices.Equal(got, want) || inOrder != ordered(table, waits) {
		t.Fatal(table, waits, got, want, inOrder)
	}
	if inOrder && len(got) > 0 {
		t.Fatal("ordered and stuck", table, waits, got)
	}
}

// TestWaitsOfAll looks at all tables of three places with three arms.
func TestWaitsOfAll(t *testing.T) {
	for n := range 64 {
		table := ids(n%4, n/4%4, n/16)
		for w := range 125 {
			waits := ids(w%5-1, w/5%5-1, w/25-1)
			for k := range 4 {
				checkBook(t, table, waits[:k])
			}
		}
	}
}

func TestManyWaits(t *testing.T) {
	r := rand.New(rand.NewSource(1))
	found, rings, free := 0, 0, 0
	for range 60000 {
		table := make([]int, 1+r.Intn(14))
		for i := range table {
			table[i] = max(0, r.Intn(arms+3)-2)
		}
		waits := make([]int, r.Intn(arms+1))
		for i := range waits {
			waits[i] = r.Intn(len(table)+3) - 1
		}
		checkBook(t, table, waits)
		l := mutex.Stuck(table, waits)
		switch {
		case mutex.Ordered(table, waits):
			found++
		case len(l) > 0:
			rings++
		default:
			free++
		}
	}
	if found < 1000 || rings < 1000 || free < 1000 {
		t.Error(found, rings, free)
	}
}

// R3

// roomy is a list with room behind its end, and numbers in that.
func roomy(l []int) []int { return append(slices.Clone(l), 77, 78, 79)[:len(l)] }

// kept tells whether a list made by roomy is as it was, with the room behind it.
func kept(l, was []int) bool {
	return slices.Equal(l[:len(l)+3], append(slices.Clone(was), 77, 78, 79))
}

// spoil overwrites an answer and the room behind it.
func spoil(l []int) {
	l = l[:cap(l)]
	for i := range l {
		l[i] = 55
	}
}

func TestKeepsArguments(t *testing.T) {
	for _, table := range append(rightTables(), wrongTables()[:5]...) {
		for _, waits := range [][]int{nil, ids(0), ids(1, 0), ids(5, -1, 3), waitsFor(1, 8), waitsFor(1, 9)} {
			for id := -1; id < 5; id++ {
				for _, who := range ids(0, 1, 2, 8, 9) {
					p, l := roomy(table), roomy(waits)
					mutex.Right(p)
					mutex.Ordered(p, l)
					taken, _ := mutex.Lock(p, id, who)
					given, _ := mutex.Unlock(p, id, who)
					for _, x := range [][]int{taken, given, mutex.Held(p, who), mutex.Stuck(p, l)} {
						spoil(x)
					}
					if !kept(p, table) || !kept(l, waits) {
						t.Fatal("changed", table, waits, id, who, p, l)
					}
				}
			}
		}
	}
}

func TestKeepsAnswers(t *testing.T) {
	table, waits := ids(1, 2, 0), ids(1, 0)
	taken, _ := mutex.Lock(table, 2, 1)
	given, _ := mutex.Unlock(table, 0, 1)
	held, rings := mutex.Held(table, 2), mutex.Stuck(table, waits)
	spoil(table)
	spoil(waits)
	for i, c := range [][2][]int{{taken, ids(1, 2, 1)}, {given, ids(0, 2, 0)}, {held, ids(1)}, {rings, ids(1, 2)}} {
		if !slices.Equal(c[0], c[1]) {
			t.Error(i, c[0])
		}
	}
}

// P17.4

// book is who has locked which ids, and not given them back.
type book map[[2]int]bool

// holders is how many arms hold an id.
func (b book) holders(id int) int {
	n := 0
	for who := 1; who <= arms; who++ {
		if b[[2]int{id, who}] {
			n++
		}
	}
	return n
}

// TestOneHolder does locks and unlocks in many orders: who was let in, and did not go out, is the one who holds it.
func TestOneHolder(t *testing.T) {
	r := rand.New(rand.NewSource(2))
	for range 300 {
		n := 1 + r.Intn(6)
		table, b := mutex.New(n), book{}
		for range 200 {
			id, who := r.Intn(n), 1+r.Intn(arms)
			key, do := [2]int{id, who}, mutex.Lock
			in := r.Intn(2) == 0
			if !in {
				do = mutex.Unlock
			}
			if next, err := do(table, id, who); err == api.OK {
				table, b[key] = next, in
			}
			if b.holders(id) > 1 || !mutex.Right(table) || len(table) != n {
				t.Fatal(table, b)
			}
			for id := range n {
				for who := 1; who <= arms; who++ {
					if b[[2]int{id, who}] != slices.Contains(mutex.Held(table, who), id) {
						t.Fatal(table, b, id, who)
					}
				}
			}
		}
	}
}

// TestOrderedLocks has arms lock what they want in one order, whoever is picked: nobody is ever stuck, and all come to their end.
func TestOrderedLocks(t *testing.T) {
	r := rand.New(rand.NewSource(3))
	for range 300 {
		n := 2 + r.Intn(8)
		table := mutex.New(n)
		want := make([][]int, arms)
		for i := range want {
			for id := range n {
				if r.Intn(2) == 0 {
					want[i] = append(want[i], id)
				}
			}
		}
		at := make([]int, arms)
		waits := func() []int {
			l := waitsFor(-1, arms)
			for i := range l {
				if at[i] < len(want[i]) {
					l[i] = want[i][at[i]]
				}
			}
			return l
		}
		for done := 0; done < arms; {
			if l := waits(); !mutex.Ordered(table, l) || len(mutex.Stuck(table, l)) > 0 {
				t.Fatal(table, l)
			}
			i := r.Intn(arms)
			switch {
			case at[i] < len(want[i]):
				if next, err := mutex.Lock(table, want[i][at[i]], i+1); err == api.OK {
					table = next
					at[i]++
				}
			case at[i] == len(want[i]):
				for _, id := range want[i] {
					table, _ = mutex.Unlock(table, id, i+1)
				}
				at[i]++
				done++
			}
		}
		if !slices.Equal(table, mutex.New(n)) {
			t.Fatal(table)
		}
	}
}
