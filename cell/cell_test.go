package cell_test

import (
	"math/big"
	"math/rand"
	"testing"

	"deckhand/api"
	"deckhand/cell"
)

const (
	most  = 1<<63 - 1
	least = -1 << 63
	vast  = 1 << 40   // the greatest volume
	last  = 1<<31 - 1 // the greatest version
)

func of(most, vol, ver int) api.Cell { return api.Cell{Cap: most, Vol: vol, Ver: ver} }

// values are numbers about all the ends of a cell's fields.
var values = []int{least, least + 1, -vast, -101, -100, -61, -60, -41, -40, -2, -1, 0, 1, 2, 39, 40, 41, 59, 60, 61, 99, 100, 101, last - 1, last, last + 1, vast - 1, vast, vast + 1, most - vast, most - vast + 1, most - 1, most}

// cells are all cells of these values; rightCells are the right ones of them.
func cells() []api.Cell {
	var l []api.Cell
	for _, c := range values {
		for _, v := range values {
			for _, n := range values {
				l = append(l, of(c, v, n))
			}
		}
	}
	return l
}

func rightCells() []api.Cell {
	var l []api.Cell
	for _, c := range cells() {
		if right(c) {
			l = append(l, c)
		}
	}
	return l
}

// within tells whether a number is from one to another one.
func within(n, from, to int) bool { return from <= n && n <= to }

// right is what Right must tell.
func right(c api.Cell) bool {
	return within(c.Cap, 1, vast) && within(c.Vol, 0, c.Cap) && within(c.Ver, 0, last)
}

// changed is what Change must answer; sums have as many digits as they need.
func changed(c api.Cell, n *big.Int) (api.Cell, api.Errno) {
	vol := new(big.Int).Add(big.NewInt(int64(c.Vol)), n)
	switch {
	case !right(c):
		return api.Cell{}, api.ErrCell
	case n.Sign() == 0:
		return api.Cell{}, api.ErrArg
	case c.Ver == last:
		return api.Cell{}, api.ErrVer
	case vol.Sign() < 0:
		return api.Cell{}, api.ErrUnder
	case vol.Cmp(big.NewInt(int64(c.Cap))) > 0:
		return api.Cell{}, api.ErrRoom
	}
	return of(c.Cap, int(vol.Int64()), c.Ver+1), api.OK
}

// poured and drawn are what Pour and Draw must answer.
func poured(c api.Cell, n int) (api.Cell, api.Errno) { return moved(c, n, 1) }
func drawn(c api.Cell, n int) (api.Cell, api.Errno)  { return moved(c, n, -1) }

func moved(c api.Cell, n int, sign int64) (api.Cell, api.Errno) {
	switch {
	case !right(c):
		return api.Cell{}, api.ErrCell
	case n < 1:
		return api.Cell{}, api.ErrArg
	}
	return changed(c, new(big.Int).Mul(big.NewInt(int64(n)), big.NewInt(sign)))
}

// P10.1

func TestRight(t *testing.T) {
	for _, c := range []api.Cell{of(1, 0, 0), of(1, 1, 0), of(1, 1, last), of(vast, 0, 0), of(vast, vast, last), of(100, 40, 7), of(100, 100, 0), of(2, 1, last-1)} {
		if !cell.Right(c) {
			t.Error(c)
		}
	}
	for _, c := range []api.Cell{{}, of(0, 0, 0), of(0, 0, 1), of(-1, 0, 0), of(-1, -1, 0), of(least, least, 0), of(vast+1, 0, 0), of(vast+1, vast+1, 0), of(most, 0, 0), of(100, -1, 0), of(100, least, 0), of(100, 101, 0), of(1, 2, 0), of(vast, vast+1, 0), of(100, most, 0), of(100, 40, -1), of(100, 40, least), of(100, 40, last+1), of(100, 40, most), of(100, 40, 1<<32)} {
		if cell.Right(c) {
			t.Error(c)
		}
	}
	for _, c := range cells() {
		if cell.Right(c) != right(c) {
			t.Error(c)
		}
	}
}

func TestNew(t *testing.T) {
	for i, c := range []struct {
		most, vol int
		err       api.Errno
	}{
		{1, 0, api.OK}, {1, 1, api.OK}, {100, 40, api.OK}, {vast, vast, api.OK}, {vast, 0, api.OK}, {0, 0, api.ErrCell}, {-1, -1, api.ErrCell}, {1, 2, api.ErrCell}, {1, -1, api.ErrCell}, {vast + 1, 0, api.ErrCell}, {vast, vast + 1, api.ErrCell}, {least, least, api.ErrCell}, {most, most, api.ErrCell},
	} {
		want := of(c.most, c.vol, 0)
		if c.err != api.OK {
			want = api.Cell{}
		}
		if got, err := cell.New(c.most, c.vol); got != want || err != c.err {
			t.Error(i, got, err)
		}
	}
	for _, most := range values {
		for _, vol := range values {
			want, wantErr := of(most, vol, 0), api.OK
			if !right(want) {
				want, wantErr = api.Cell{}, api.ErrCell
			}
			if got, err := cell.New(most, vol); got != want || err != wantErr {
				t.Error(most, vol, got, err)
			}
		}
	}
}

func TestRoom(t *testing.T) {
	for c, want := range map[api.Cell]int{of(100, 40, 0): 60, of(100, 100, 0): 0, of(100, 0, last): 100, of(vast, 0, 3): vast, of(vast, 1, 3): vast - 1, of(1, 1, 1): 0, of(1, 0, 1): 1} {
		if n := cell.Room(c); n != want {
			t.Error(c, n)
		}
	}
	for _, c := range cells() {
		want := 0
		if right(c) {
			want = c.Cap - c.Vol
		}
		if n := cell.Room(c); n != want {
			t.Error(c, n)
		}
	}
}

// P10.2

func TestChange(t *testing.T) {
	for i, c := range []struct {
		cell api.Cell
		n    int
		want api.Cell
		err  api.Errno
	}{
		{of(100, 40, 0), 60, of(100, 100, 1), api.OK}, {of(100, 40, 0), 61, api.Cell{}, api.ErrRoom}, {of(100, 40, 0), -41, api.Cell{}, api.ErrUnder}, {of(100, 40, 0), -40, of(100, 0, 1), api.OK}, {of(100, 40, 5), 1, of(100, 41, 6), api.OK}, {of(100, 40, 5), -1, of(100, 39, 6), api.OK},
		{of(100, 40, 0), 0, api.Cell{}, api.ErrArg}, {of(100, 40, last), 0, api.Cell{}, api.ErrArg}, {of(100, 40, last), 1, api.Cell{}, api.ErrVer}, {of(100, 40, last), -1, api.Cell{}, api.ErrVer}, {of(100, 40, last), 61, api.Cell{}, api.ErrVer}, {of(100, 40, last), -41, api.Cell{}, api.ErrVer}, {of(100, 40, last-1), 1, of(100, 41, last), api.OK}, {of(100, 40, last-1), 61, api.Cell{}, api.ErrRoom},
		{of(100, 40, 0), most, api.Cell{}, api.ErrRoom}, {of(100, 0, 0), most, api.Cell{}, api.ErrRoom}, {of(vast, vast, 0), most, api.Cell{}, api.ErrRoom}, {of(100, 40, 0), least, api.Cell{}, api.ErrUnder}, {of(100, 0, 0), least, api.Cell{}, api.ErrUnder}, {of(vast, vast, 0), least, api.Cell{}, api.ErrUnder}, {of(vast, 0, 0), vast, of(vast, vast, 1), api.OK}, {of(vast, vast, 0), -vast, of(vast, 0, 1), api.OK}, {of(vast, 1, 0), vast, api.Cell{}, api.ErrRoom}, {of(vast, vast, 0), -vast - 1, api.Cell{}, api.ErrUnder},
		{api.Cell{}, 0, api.Cell{}, api.ErrCell}, {of(100, 101, 0), -1, api.Cell{}, api.ErrCell}, {of(100, -1, 0), 1, api.Cell{}, api.ErrCell}, {of(100, 40, last+1), 1, api.Cell{}, api.ErrCell}, {of(100, 40, -1), 0, api.Cell{}, api.ErrCell}, {of(vast+1, 40, 0), 1, api.Cell{}, api.ErrCell},
	} {
		if got, err := cell.Change(c.cell, c.n); got != c.want || err != c.err {
			t.Error(i, got, err)
		}
	}
}

func TestChangePourDrawOfAll(t *testing.T) {
	for _, c := range cells() {
		for _, n := range values {
			want, wantErr := changed(c, big.NewInt(int64(n)))
			if got, err := cell.Change(c, n); got != want || err != wantErr {
				t.Fatal("change", c, n, got, err)
			}
			want, wantErr = poured(c, n)
			if got, err := cell.Pour(c, n); got != want || err != wantErr {
				t.Fatal("pour", c, n, got, err)
			}
			want, wantErr = drawn(c, n)
			if got, err := cell.Draw(c, n); got != want || err != wantErr {
				t.Fatal("draw", c, n, got, err)
			}
		}
	}
}

func TestPourAndDraw(t *testing.T) {
	c := of(100, 40, 3)
	for i, x := range []struct {
		do   func(api.Cell, int) (api.Cell, api.Errno)
		cell api.Cell
		n    int
		want api.Cell
		err  api.Errno
	}{
		{cell.Pour, c, 60, of(100, 100, 4), api.OK}, {cell.Pour, c, 61, api.Cell{}, api.ErrRoom}, {cell.Pour, c, 1, of(100, 41, 4), api.OK}, {cell.Pour, c, 0, api.Cell{}, api.ErrArg}, {cell.Pour, c, -1, api.Cell{}, api.ErrArg}, {cell.Pour, c, least, api.Cell{}, api.ErrArg}, {cell.Pour, c, most, api.Cell{}, api.ErrRoom},
		{cell.Draw, c, 40, of(100, 0, 4), api.OK}, {cell.Draw, c, 41, api.Cell{}, api.ErrUnder}, {cell.Draw, c, 1, of(100, 39, 4), api.OK}, {cell.Draw, c, 0, api.Cell{}, api.ErrArg}, {cell.Draw, c, -1, api.Cell{}, api.ErrArg}, {cell.Draw, c, least, api.Cell{}, api.ErrArg}, {cell.Draw, c, most, api.Cell{}, api.ErrUnder},
		{cell.Pour, of(100, 40, last), -1, api.Cell{}, api.ErrArg}, {cell.Draw, of(100, 40, last), -1, api.Cell{}, api.ErrArg}, {cell.Pour, of(100, 40, last), 1, api.Cell{}, api.ErrVer}, {cell.Draw, of(100, 40, last), 1, api.Cell{}, api.ErrVer}, {cell.Pour, of(0, 0, 0), 0, api.Cell{}, api.ErrCell}, {cell.Draw, of(0, 0, 0), -1, api.Cell{}, api.ErrCell}, {cell.Pour, of(1, 1, 0), 1, api.Cell{}, api.ErrRoom}, {cell.Draw, of(1, 0, 0), 1, api.Cell{}, api.ErrUnder},
	} {
		if got, err := x.do(x.cell, x.n); got != x.want || err != x.err {
			t.Error(i, got, err)
		}
	}
}

// P10.3

func TestMove(t *testing.T) {
	a, b, none := of(100, 40, 3), of(60, 50, 8), api.Cell{}
	for i, c := range []struct {
		a, b         api.Cell
		n            int
		wantA, wantB api.Cell
		err          api.Errno
	}{
		{a, b, 10, of(100, 30, 4), of(60, 60, 9), api.OK}, {a, b, 1, of(100, 39, 4), of(60, 51, 9), api.OK}, {b, a, 50, of(60, 0, 9), of(100, 90, 4), api.OK}, {a, b, 11, none, none, api.ErrRoom}, {b, a, 51, none, none, api.ErrUnder}, {a, b, 41, none, none, api.ErrUnder},
		{a, a, 40, of(100, 0, 4), of(100, 80, 4), api.OK}, {a, b, 0, none, none, api.ErrArg}, {a, b, -1, none, none, api.ErrArg}, {a, b, least, none, none, api.ErrArg}, {a, b, most, none, none, api.ErrUnder},
		{a, of(60, 60, 0), 1, none, none, api.ErrRoom}, {of(60, 0, 0), b, 1, none, none, api.ErrUnder}, {of(60, 0, 0), of(60, 60, 0), 1, none, none, api.ErrUnder}, {a, none, 1, none, none, api.ErrCell}, {none, b, 1, none, none, api.ErrCell}, {none, none, 0, none, none, api.ErrCell}, {a, none, 0, none, none, api.ErrArg}, {a, none, 41, none, none, api.ErrUnder}, {none, b, 0, none, none, api.ErrCell}, {of(100, 40, last), none, 1, none, none, api.ErrVer}, {a, of(60, 50, last), 11, none, none, api.ErrVer}, {a, of(60, 50, last-1), 10, of(100, 30, 4), of(60, 60, last), api.OK}, {of(100, 40, last), b, 41, none, none, api.ErrVer}, {a, of(60, 61, 0), 1, none, none, api.ErrCell},
		{of(vast, vast, 0), of(vast, 0, 0), vast, of(vast, 0, 1), of(vast, vast, 1), api.OK},
	} {
		gotA, gotB, err := cell.Move(c.a, c.b, c.n)
		if gotA != c.wantA || gotB != c.wantB || err != c.err {
			t.Error(i, gotA, gotB, err)
		}
	}
}

// TestMoveOfAll has each refusal of the one cell beside each one of the other.
func TestMoveOfAll(t *testing.T) {
	some := []api.Cell{{}, of(100, 40, 0), of(100, 0, 7), of(100, 100, last), of(100, 40, last), of(41, 0, last-1), of(100, 101, 0), of(100, -1, 0), of(vast, vast, 1), of(vast, 0, 0), of(vast+1, 0, 0), of(40, 0, -1), of(41, 1, 0)}
	for _, a := range some {
		for _, b := range some {
			for _, n := range values {
				wantA, wantErr := drawn(a, n)
				wantB := api.Cell{}
				if wantErr == api.OK {
					wantB, wantErr = poured(b, n)
				}
				if wantErr != api.OK {
					wantA = api.Cell{}
				}
				if gotA, gotB, err := cell.Move(a, b, n); gotA != wantA || gotB != wantB || err != wantErr {
					t.Fatal(a, b, n, gotA, gotB, err)
				}
			}
		}
	}
}

// P10.4

func TestRightCellsStayRight(t *testing.T) {
	for _, c := range rightCells() {
		for _, n := range values {
			if got, err := cell.Change(c, n); err == api.OK && !cell.Right(got) {
				t.Error("change", c, n, got)
			}
			got, err := cell.Pour(c, n)
			if err != api.OK {
				continue
			}
			back, err := cell.Draw(got, n)
			if got.Ver == last {
				if err != api.ErrVer {
					t.Error("no version", c, n, err)
				}
				continue
			}
			if !cell.Right(got) || err != api.OK || back != of(c.Cap, c.Vol, c.Ver+2) {
				t.Error("there and back", c, n, got, back, err)
			}
		}
	}
}

func TestMovesLeaveTheSum(t *testing.T) {
	r := rand.New(rand.NewSource(1))
	l := []api.Cell{of(100, 40, 0), of(60, 60, 0), of(1000, 0, 0), of(1, 1, 0), of(7, 3, 0)}
	sum := 104
	moves := 0
	for range 20000 {
		from, to, n := r.Intn(len(l)), r.Intn(len(l)), r.Intn(12)-1
		if from == to {
			continue
		}
		a, b, err := cell.Move(l[from], l[to], n)
		if err != api.OK {
			continue
		}
		if a.Ver != l[from].Ver+1 || b.Ver != l[to].Ver+1 {
			t.Fatal("versions", l[from], l[to], a, b)
		}
		l[from], l[to] = a, b
		moves++
		all := 0
		for _, c := range l {
			if !cell.Right(c) {
				t.Fatal("not right", c)
			}
			all += c.Vol
		}
		if all != sum {
			t.Fatal("sum", all)
		}
	}
	if moves < 1000 {
		t.Error("moves", moves)
	}
}
