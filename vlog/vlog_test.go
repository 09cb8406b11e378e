package vlog_test

import (
	"math/big"
	"math/rand"
	"slices"
	"testing"

	"deckhand/api"
	"deckhand/vlog"
)

const (
	most  = 1<<63 - 1
	least = -1 << 63
	vast  = 1 << 40   // the greatest volume
	last  = 1<<31 - 1 // the greatest version
	notes = 64        // the greatest room
	arms  = 8         // the greatest arm
)

func ch(ver, by, n int) api.Change { return api.Change{Ver: ver, By: by, N: n} }

func of(room, last int, list ...api.Change) api.Log {
	return api.Log{Room: room, Last: last, List: list}
}

// rising is n changes whose versions rise by 1 to the last one.
func rising(n, last int) []api.Change {
	l := make([]api.Change, n)
	for i := range l {
		l[i] = ch(last-n+1+i, 1+i%arms, 7*i-3)
	}
	return l
}

// filled is a log with n such changes.
func filled(room, n, last int) api.Log { return of(room, last, rising(n, last)...) }

// example is the chapter's.
func example() api.Log { return of(2, 3, ch(2, 2, -3), ch(3, 1, 4)) }

// rightLogs are logs that are right.
func rightLogs() []api.Log {
	l := []api.Log{
		example(),
		of(1, 1, ch(1, 1, 1)), of(1, last, ch(last, arms, -vast)), of(2, 1, ch(1, arms, vast)), of(notes, 1, ch(1, 4, -1)),
		of(3, last, ch(last-2, 1, 5), ch(last-1, 1, -5), ch(last, 1, 5)), of(2, last-1, ch(last-2, 3, 9), ch(last-1, 2, 9)), of(3, 3, ch(1, 1, 2), ch(2, 1, 2), ch(3, 1, 2)),
	}
	for _, room := range []int{1, 2, 3, 63, notes} {
		for _, n := range []int{0, 1, 2, 62, 63, notes} {
			for _, ver := range []int{0, 1, 2, 62, 63, 64, 65, 1000, last - 1, last} {
				if n <= room && n <= ver {
					l = append(l, filled(room, n, ver))
				}
			}
		}
	}
	return l
}

// wrongLogs are logs that are not right.
func wrongLogs() []api.Log {
	var l []api.Log
	for _, room := range []int{0, -1, least, notes + 1, most} {
		l = append(l, of(room, 0), of(room, 1, ch(1, 1, 1)), of(room, last))
	}
	for _, ver := range []int{-1, -2, least, last + 1, 1 << 32, most} {
		l = append(l, of(4, ver), of(4, ver, ch(ver, 1, 1)))
	}
	for _, room := range []int{1, 2, 3, 63, notes} {
		l = append(l, filled(room, room+1, 1000), filled(room, room+1, room+1), filled(room, 100, 1000))
	}
	// The first version is below 1.
	for _, ver := range []int{0, 1, 2, 5} {
		l = append(l, filled(notes, ver+1, ver), filled(notes, ver+2, ver), filled(notes, notes, ver))
	}
	for _, c := range []api.Change{ch(1, 1, 1), ch(0, 1, 1), ch(0, 0, 0), ch(-1, 1, 1)} {
		l = append(l, of(4, 0, c))
	}
	// The versions do not rise by 1, or do not end with Last.
	for i := range 4 {
		for _, by := range []int{-4, -3, -2, -1, 1, 2, 3, 4, last, 1 << 32, most - 20, least} {
			one, behind := filled(4, 4, 9), filled(4, 4, 9)
			one.List[i].Ver += by
			for k := range behind.List[i:] {
				behind.List[i+k].Ver += by
			}
			l = append(l, one, behind)
		}
	}
	l = append(l, of(4, 9, rising(3, 8)...), of(4, 9, rising(3, 10)...), of(4, 9, rising(1, 1)...), of(4, 0, rising(1, 1)...), of(4, 9, ch(9, 1, 1), ch(8, 1, 1)), of(4, 9, ch(9, 1, 1), ch(9, 1, 1)), of(4, 9, ch(7, 1, 1), ch(9, 1, 1)))
	// By and N are none.
	for i := range 4 {
		for _, by := range []int{0, -1, arms + 1, least, most, 1 << 32} {
			x := filled(4, 4, 9)
			x.List[i].By = by
			l = append(l, x)
		}
		for _, n := range []int{0, -vast - 1, vast + 1, least, most} {
			x := filled(4, 4, 9)
			x.List[i].N = n
			l = append(l, x)
		}
	}
	return append(l, api.Log{}, of(4, 1, api.Change{}))
}

// same tells whether two logs are.
func same(a, b api.Log) bool {
	return a.Room == b.Room && a.Last == b.Last && slices.Equal(a.List, b.List)
}

// mark is what lies in the room behind a list's end.
var mark = ch(-99, -99, -99)

// roomy is a log whose list has room behind its end, and the whole of that.
func roomy(l api.Log) (api.Log, []api.Change) {
	all := append(slices.Clone(l.List), mark, mark, mark)
	l.List = all[:len(l.List)]
	return l, all
}

// untouched tells whether all of a roomy log's memory is as it was.
func untouched(l api.Log, all []api.Change) bool {
	return slices.Equal(all, append(slices.Clone(l.List), mark, mark, mark))
}

// P11.1

func TestRight(t *testing.T) {
	for i, l := range rightLogs() {
		if !vlog.Right(l) {
			t.Error(i, l)
		}
	}
	for i, l := range wrongLogs() {
		if vlog.Right(l) {
			t.Error(i, l)
		}
	}
}

// TestRightOfChanges has the ends of By and N at each place of a list.
func TestRightOfChanges(t *testing.T) {
	for i := range 3 {
		for by := -2; by <= arms+2; by++ {
			for _, n := range []int{least, -vast - 1, -vast, -vast + 1, -1, 0, 1, vast - 1, vast, vast + 1, most} {
				l := filled(3, 3, 5)
				l.List[i].By, l.List[i].N = by, n
				want := by >= 1 && by <= 8 && n != 0 && n >= -1<<40 && n <= 1<<40
				if vlog.Right(l) != want {
					t.Error(i, by, n)
				}
			}
		}
	}
}

func TestNew(t *testing.T) {
	for room := -3; room <= notes+3; room++ {
		l, err := vlog.New(room)
		if room < 1 || room > 64 {
			if err != api.ErrLog || !same(l, api.Log{}) {
				t.Error(room, l, err)
			}
			continue
		}
		if err != api.OK || !same(l, of(room, 0)) || !vlog.Right(l) {
			t.Error(room, l, err)
		}
	}
	for _, room := range []int{least, 1<<32 + 1, most} {
		if l, err := vlog.New(room); err != api.ErrLog || !same(l, api.Log{}) {
			t.Error(room, l, err)
		}
	}
}

// P11.2

func TestNote(t *testing.T) {
	for i, c := range []struct {
		log   api.Log
		by, n int
		want  api.Log
		err   api.Errno
	}{
		{of(2, 0), 1, 5, of(2, 1, ch(1, 1, 5)), api.OK},
		{of(2, 1, ch(1, 1, 5)), 2, -3, of(2, 2, ch(1, 1, 5), ch(2, 2, -3)), api.OK},
		{of(2, 2, ch(1, 1, 5), ch(2, 2, -3)), 1, 4, example(), api.OK},
		{of(1, 0), 8, vast, of(1, 1, ch(1, 8, vast)), api.OK},
		{of(1, 1, ch(1, 8, vast)), 1, -vast, of(1, 2, ch(2, 1, -vast)), api.OK},
		{of(4, 9), 3, -1, of(4, 10, ch(10, 3, -1)), api.OK},
		{of(1, last-1), 3, 1, of(1, last, ch(last, 3, 1)), api.OK},
		{of(2, last-1, ch(last-2, 1, 1), ch(last-1, 1, 2)), 3, 1, of(2, last, ch(last-1, 1, 2), ch(last, 3, 1)), api.OK},
		{filled(notes, notes, last-1), 1, -3 + 7*notes, of(notes, last, append(rising(notes+1, last)[1:notes], ch(last, 1, -3+7*notes))...), api.OK},
		{of(4, last), 3, 1, api.Log{}, api.ErrVer},
		{filled(2, 2, last), 3, 1, api.Log{}, api.ErrVer},
		{of(4, 9), 0, 1, api.Log{}, api.ErrArg}, {of(4, 9), 9, 1, api.Log{}, api.ErrArg}, {of(4, 9), -1, 1, api.Log{}, api.ErrArg}, {of(4, 9), least, 1, api.Log{}, api.ErrArg}, {of(4, 9), most, 1, api.Log{}, api.ErrArg},
		{of(4, 9), 1, 0, api.Log{}, api.ErrArg}, {of(4, 9), 1, vast + 1, api.Log{}, api.ErrArg}, {of(4, 9), 1, -vast - 1, api.Log{}, api.ErrArg}, {of(4, 9), 1, least, api.Log{}, api.ErrArg}, {of(4, 9), 1, most, api.Log{}, api.ErrArg},
		// Of several the first one is told.
		{of(4, last), 0, 1, api.Log{}, api.ErrArg}, {of(4, last), 1, 0, api.Log{}, api.ErrArg}, {of(4, last+1), 0, 0, api.Log{}, api.ErrLog}, {of(0, last), 0, 0, api.Log{}, api.ErrLog}, {of(65, last), 1, 1, api.Log{}, api.ErrLog},
	} {
		l, all := roomy(c.log)
		got, err := vlog.Note(l, c.by, c.n)
		if !same(got, c.want) || err != c.err {
			t.Error(i, got, err)
		}
		if !untouched(c.log, all) {
			t.Error("written", i, all)
		}
	}
}

// noted is what Note must answer of a log that is right, to which nothing is wrong to note.
func noted(l api.Log, by, n int) api.Log {
	list := append(slices.Clone(l.List), ch(l.Last+1, by, n))
	for len(list) > l.Room {
		list = list[1:]
	}
	return of(l.Room, l.Last+1, list...)
}

func TestNoteOfAll(t *testing.T) {
	for _, l := range rightLogs() {
		for _, by := range []int{-1, 0, 1, 5, arms, arms + 1} {
			for _, n := range []int{-vast - 1, -vast, -1, 0, 1, vast, vast + 1} {
				want, wantErr := api.Log{}, api.OK
				switch {
				case by < 1 || by > 8 || n == 0 || n > 1<<40 || n < -1<<40:
					wantErr = api.ErrArg
				case l.Last == last:
					wantErr = api.ErrVer
				default:
					want = noted(l, by, n)
				}
				handed, all := roomy(l)
				got, err := vlog.Note(handed, by, n)
				if !same(got, want) || err != wantErr || err == api.OK && !vlog.Right(got) {
					t.Fatal(l, by, n, got, err)
				}
				if !untouched(l, all) {
					t.Fatal("written", l, by, n, all)
				}
			}
		}
	}
	for _, l := range wrongLogs() {
		for _, by := range []int{0, 1} {
			for _, n := range []int{0, 1} {
				if got, err := vlog.Note(l, by, n); !same(got, api.Log{}) || err != api.ErrLog {
					t.Fatal(l, by, n, got, err)
				}
			}
		}
	}
}

// TestNoteIsNewMemory notes different changes to one log, and writes into what was told.
func TestNoteIsNewMemory(t *testing.T) {
	for _, l := range rightLogs() {
		if l.Last == last {
			continue
		}
		handed, all := roomy(l)
		a, _ := vlog.Note(handed, 1, 5)
		b, _ := vlog.Note(handed, 2, -5)
		aa, errA := vlog.Note(a, 3, 7)
		ab, errB := vlog.Note(a, 4, -7)
		if !same(a, noted(l, 1, 5)) || !same(b, noted(l, 2, -5)) {
			t.Fatal("beside each other", l, a, b)
		}
		if a.Last < last && (!same(aa, noted(a, 3, 7)) || !same(ab, noted(a, 4, -7)) || errA != api.OK || errB != api.OK) {
			t.Fatal("behind each other", l, aa, ab)
		}
		for _, x := range [][]api.Change{a.List, b.List, aa.List, ab.List} {
			wipe(x)
		}
		if !untouched(l, all) {
			t.Fatal("shared", l, all)
		}
	}
}

// wipe writes into a list, and into all the room behind its end.
func wipe(l []api.Change) {
	l = l[:cap(l)]
	for i := range l {
		l[i] = ch(-7, -7, -7)
	}
}

// P11.3

func TestSince(t *testing.T) {
	gap := of(4, 9) // nothing is there of what brought it to 9
	for i, c := range []struct {
		log  api.Log
		ver  int
		want []api.Change
		err  api.Errno
	}{
		{example(), 1, []api.Change{ch(2, 2, -3), ch(3, 1, 4)}, api.OK}, {example(), 2, []api.Change{ch(3, 1, 4)}, api.OK}, {example(), 3, nil, api.OK}, {example(), 0, nil, api.ErrGone}, {example(), 4, nil, api.ErrArg}, {example(), -1, nil, api.ErrArg}, {example(), least, nil, api.ErrArg}, {example(), most, nil, api.ErrArg},
		{gap, 9, nil, api.OK}, {gap, 8, nil, api.ErrGone}, {gap, 0, nil, api.ErrGone}, {gap, 10, nil, api.ErrArg}, {gap, -1, nil, api.ErrArg},
		{of(1, 0), 0, nil, api.OK}, {of(1, 0), 1, nil, api.ErrArg}, {of(1, 0), -1, nil, api.ErrArg},
		{filled(3, 3, 3), 0, rising(3, 3), api.OK}, {filled(3, 3, 4), 0, nil, api.ErrGone}, {filled(3, 3, 4), 1, rising(3, 4), api.OK},
		{filled(notes, notes, last), last - notes, rising(notes, last), api.OK}, {filled(notes, notes, last), last - notes - 1, nil, api.ErrGone}, {filled(notes, notes, last), last, nil, api.OK}, {filled(notes, notes, last), last + 1, nil, api.ErrArg}, {of(notes, last), 0, nil, api.ErrGone}, {filled(notes, 5, 40), 35, rising(5, 40), api.OK}, {filled(notes, 5, 40), 34, nil, api.ErrGone},
		{of(0, 0), 0, nil, api.ErrLog}, {of(65, 3), -1, nil, api.ErrLog}, {of(4, 3, ch(2, 1, 1)), 0, nil, api.ErrLog}, {of(4, -1), -1, nil, api.ErrLog},
	} {
		l, all := roomy(c.log)
		got, err := vlog.Since(l, c.ver)
		if !slices.Equal(got, c.want) || err != c.err {
			t.Error(i, got, err)
		}
		wipe(got)
		if !untouched(c.log, all) {
			t.Error("shared", i, all)
		}
	}
}

// since is what Since must answer of a log that is right: each version is looked for by itself.
func since(l api.Log, ver int) ([]api.Change, api.Errno) {
	if ver < 0 || ver > l.Last {
		return nil, api.ErrArg
	}
	if l.Last-ver > notes {
		return nil, api.ErrGone
	}
	var all []api.Change
	for v := ver + 1; v <= l.Last; v++ {
		i := slices.IndexFunc(l.List, func(c api.Change) bool { return c.Ver == v })
		if i < 0 {
			return nil, api.ErrGone
		}
		all = append(all, l.List[i])
	}
	return all, api.OK
}

// volume is what At must answer; sums have as many digits as they need.
func volume(l api.Log, vol, ver int) (int, api.Errno) {
	changes, err := since(l, ver)
	sum := big.NewInt(int64(vol))
	for _, c := range changes {
		sum.Sub(sum, big.NewInt(int64(c.N)))
	}
	switch {
	case err != api.OK:
		return 0, err
	case !sum.IsInt64():
		return 0, api.ErrOver
	}
	return int(sum.Int64()), api.OK
}

func TestSinceAndAtOfAll(t *testing.T) {
	for _, l := range rightLogs() {
		vers := []int{least, -1, 0, 1, 2, last, last + 1, most}
		for v := l.Last - len(l.List) - 3; v <= l.Last+3; v++ {
			vers = append(vers, v)
		}
		for _, ver := range vers {
			want, wantErr := since(l, ver)
			if got, err := vlog.Since(l, ver); !slices.Equal(got, want) || err != wantErr {
				t.Fatal("since", l, ver, got, err)
			}
			for _, vol := range []int{least, least + 1, least + vast, -vast, -1, 0, 1, 100, vast, most - vast, most - 1, most} {
				want, wantErr := volume(l, vol, ver)
				if got, err := vlog.At(l, vol, ver); got != want || err != wantErr {
					t.Fatal("at", l, vol, ver, got, err)
				}
			}
		}
	}
	for _, l := range wrongLogs() {
		for _, ver := range []int{-1, 0, l.Last, l.Last - 1, most} {
			if got, err := vlog.Since(l, ver); len(got) != 0 || err != api.ErrLog {
				t.Fatal("since", l, ver, got, err)
			}
			if got, err := vlog.At(l, most, ver); got != 0 || err != api.ErrLog {
				t.Fatal("at", l, ver, got, err)
			}
		}
	}
}

func TestAt(t *testing.T) {
	more := of(3, 3, ch(1, 1, vast), ch(2, 1, vast), ch(3, 2, -1))
	for i, c := range []struct {
		log      api.Log
		vol, ver int
		want     int
		err      api.Errno
	}{
		{example(), 6, 1, 5, api.OK}, {example(), 6, 2, 2, api.OK}, {example(), 6, 3, 6, api.OK}, {example(), 6, 0, 0, api.ErrGone}, {example(), 6, 4, 0, api.ErrArg}, {example(), 6, -1, 0, api.ErrArg}, {example(), 0, 1, -1, api.OK}, {example(), -6, 2, -10, api.OK},
		{of(4, 9), 7, 9, 7, api.OK}, {of(4, 9), most, 9, most, api.OK}, {of(4, 9), least, 9, least, api.OK}, {of(4, 9), 7, 8, 0, api.ErrGone},
		{more, least + 2*vast - 1, 0, least, api.OK}, {more, least + 2*vast - 2, 0, 0, api.ErrOver}, {more, least, 0, 0, api.ErrOver}, {more, most, 0, most - 2*vast + 1, api.OK}, {more, most, 2, 0, api.ErrOver}, {more, most - 1, 2, most, api.OK}, {more, least, 2, least + 1, api.OK}, {more, least, 3, least, api.OK},
		// What comes of all counts, not what comes on the way.
		{of(2, 2, ch(1, 1, -5), ch(2, 1, 5)), most, 0, most, api.OK}, {of(2, 2, ch(1, 1, 5), ch(2, 1, -5)), most, 0, most, api.OK}, {of(2, 2, ch(1, 1, 5), ch(2, 1, -5)), least, 0, least, api.OK}, {of(2, 2, ch(1, 1, -5), ch(2, 1, 4)), most - 1, 0, most, api.OK}, {of(2, 2, ch(1, 1, 4), ch(2, 1, -5)), most, 0, 0, api.ErrOver},
		{more, least, -1, 0, api.ErrArg}, {of(1, 9, ch(9, 1, 1)), least, 7, 0, api.ErrGone}, {of(1, 9, ch(8, 1, 1)), least, 8, 0, api.ErrLog},
	} {
		if got, err := vlog.At(c.log, c.vol, c.ver); got != c.want || err != c.err {
			t.Error(i, got, err)
		}
	}
}

func TestNet(t *testing.T) {
	l := of(8, 20, ch(16, 1, 5), ch(17, 2, -3), ch(18, 1, 4), ch(19, 8, vast), ch(20, 8, vast))
	for by, want := range map[int]int{1: 9, 2: -3, 3: 0, 4: 0, 7: 0, 8: 2 * vast, 0: 0, -1: 0, 9: 0, least: 0, most: 0, 1<<32 + 1: 0} {
		if n := vlog.Net(l, by); n != want {
			t.Error(by, n)
		}
	}
	full := of(notes, last)
	for i := range notes {
		full.List = append(full.List, ch(last-notes+1+i, 5, -vast))
	}
	if n := vlog.Net(full, 5); n != -notes*vast {
		t.Error(n)
	}
	if n := vlog.Net(of(2, 2, ch(1, 1, 5), ch(2, 1, -5)), 1); n != 0 {
		t.Error(n)
	}
	for _, l := range wrongLogs() {
		for by := -1; by <= arms+1; by++ {
			if n := vlog.Net(l, by); n != 0 {
				t.Error(l, by, n)
			}
		}
	}
	for _, l := range rightLogs() {
		for by := -1; by <= arms+1; by++ {
			want := 0
			for i := len(l.List) - 1; i >= 0; i-- {
				if l.List[i].By == by {
					want += l.List[i].N
				}
			}
			if n := vlog.Net(l, by); n != want {
				t.Error(l, by, n)
			}
		}
	}
}

// P11.4

func TestEachVolumeIsTold(t *testing.T) {
	r := rand.New(rand.NewSource(1))
	for _, room := range []int{1, 2, 3, 8, 63, notes} {
		l, _ := vlog.New(room)
		vols := []int{r.Intn(vast)} // what the well held in each version
		for range 200 {
			n := r.Intn(2*vast) - vast
			if n == 0 {
				continue
			}
			var err api.Errno
			l, err = vlog.Note(l, 1+r.Intn(arms), n)
			if err != api.OK || !vlog.Right(l) {
				t.Fatal(room, l, err)
			}
			now := vols[len(vols)-1] + n
			vols = append(vols, now)
			for ver, vol := range vols {
				want, wantErr := vol, api.OK
				if len(vols)-1-ver > room {
					want, wantErr = 0, api.ErrGone
				}
				if got, err := vlog.At(l, now, ver); got != want || err != wantErr {
					t.Fatal(room, ver, got, err)
				}
			}
		}
	}
}
