package deck_test

import (
	"math"
	"math/rand"
	"slices"
	"strconv"
	"strings"
	"testing"

	"deckhand/api"
	"deckhand/deck"
)

const (
	most  = 1<<63 - 1
	least = -1 << 63
)

// rows are the letters of all rows.
var rows = strings.Fields("A B C D E F G H I J K L M N O P Q R S T U V W X Y Z AA AB AC AD AE AF")

// borders is n borders, 0, 1, 2 and so on.
func borders(n int) []float64 {
	l := make([]float64, n)
	for i := range l {
		l[i] = float64(i)
	}
	return l
}

// plate is a plate of wells of 100.
func plate(rows, cols int, start ...int) api.Plate {
	return api.Plate{Rows: rows, Cols: cols, Cap: 100, Start: start}
}

func rack(rows, cols int) api.Rack { return api.Rack{Rows: rows, Cols: cols} }

func part(kind, unit, row, col int) api.Part {
	return api.Part{Kind: kind, Unit: unit, Row: row, Col: col}
}

// small is the chapter's example.
func small() api.Deck {
	return api.Deck{Borders: borders(3), Plates: []api.Plate{plate(2, 3)}, Racks: []api.Rack{rack(1, 2)}, Arms: 1}
}

// three is a deck of three plates and three racks.
func three() api.Deck {
	return api.Deck{
		Borders: borders(5),
		Plates:  []api.Plate{plate(2, 3, 7, 0, 100), plate(1, 1), plate(3, 2, 1, 2, 3, 4, 5, 6)},
		Racks:   []api.Rack{rack(2, 2), rack(1, 1), rack(4, 1)},
		Arms:    8,
	}
}

// full is a deck that has as many of everything as may be.
func full() api.Deck {
	d := api.Deck{Borders: borders(api.MaxLanes + 1), Arms: api.MaxArms}
	for i, rows := range []int{8, 4, 32, 2} {
		cols := 96 / rows
		d.Plates = append(d.Plates, api.Plate{Rows: rows, Cols: cols, X: float64(i), Pitch: 9, Reach: 4.5, Cap: 1000 + i, Start: startOf(96-20*i, 1000+i)})
		d.Racks = append(d.Racks, api.Rack{Rows: 32 / rows, Cols: 3 * rows, X: float64(i), Pitch: 9, Reach: 4.5})
	}
	d.Racks[2] = rack(32, 3)
	return d
}

// startOf is n volumes up to a capacity.
func startOf(n, most int) []int {
	l := make([]int, n)
	for i := range l {
		l[i] = (i*37 + 5) % (most + 1)
	}
	return l
}

// decks are decks that are described.
func decks() []api.Deck {
	empty := api.Deck{Borders: []float64{math.Inf(-1), math.Inf(1)}, Arms: 1}
	plates := api.Deck{Borders: borders(2), Plates: []api.Plate{plate(1, 1), plate(1, 1, 100), plate(26, 1), plate(27, 1)}, Arms: 2}
	racks := api.Deck{Borders: borders(3), Racks: []api.Rack{rack(1, 1), rack(1, 48), rack(32, 1), rack(1, 2)}, Arms: 8}
	wide := api.Deck{Borders: borders(25), Plates: []api.Plate{plate(8, 48)}, Racks: []api.Rack{rack(32, 12)}, Arms: 3}
	nowhere := small()
	nowhere.Plates[0].X, nowhere.Plates[0].Pitch, nowhere.Plates[0].Reach = math.NaN(), math.Inf(1), -1
	nowhere.Racks[0].X, nowhere.Racks[0].Pitch, nowhere.Racks[0].Reach = math.Inf(-1), math.NaN(), math.NaN()
	return []api.Deck{small(), three(), full(), empty, plates, racks, wide, nowhere}
}

// known is a part as the document has it: its name, and of a well what it holds at most and at first.
type known struct {
	part  api.Part
	name  string
	cap   int
	start int
}

// placed are the parts of a unit, row by row.
func placed(kind, unit, rowCount, colCount int) []known {
	var l []known
	for r := range rowCount {
		for c := range colCount {
			l = append(l, known{part: part(kind, unit, r, c), name: []string{"", "P", "T"}[kind] + strconv.Itoa(unit) + "." + rows[r] + strconv.Itoa(c+1)})
		}
	}
	return l
}

// listed are all parts of a described deck, in the order of their ids, and how many there are of each kind.
func listed(d api.Deck) (l []known, counts [3]int) {
	for unit, p := range d.Plates {
		for i, k := range placed(api.PartWell, unit, p.Rows, p.Cols) {
			k.cap = p.Cap
			if i < len(p.Start) {
				k.start = p.Start[i]
			}
			l = append(l, k)
			counts[0]++
		}
	}
	for unit, r := range d.Racks {
		tips := placed(api.PartTip, unit, r.Rows, r.Cols)
		l = append(l, tips...)
		counts[1] += len(tips)
	}
	for unit := 1; unit < len(d.Borders); unit++ {
		l = append(l, known{part: part(api.PartLane, unit-1, 0, 0), name: "L" + strconv.Itoa(unit-1)})
		counts[2]++
	}
	return l, counts
}

// fault is what makes a deck like three a wrong one, and what Check says then; ones of a lesser rank are told first.
type fault struct {
	rank int
	what string
	err  api.Errno
	do   func(d *api.Deck)
}

// faults are wrong decks, in the chapter's order.
func faults() []fault {
	l := []fault{
		{0, "no border", api.ErrArg, func(d *api.Deck) { d.Borders = nil }},
		{0, "one border", api.ErrArg, func(d *api.Deck) { d.Borders = borders(1) }},
		{0, "26 borders", api.ErrLong, func(d *api.Deck) { d.Borders = borders(26) }},
		{0, "a no-number", api.ErrNaN, func(d *api.Deck) { d.Borders = []float64{0, 1, math.NaN()} }},
		{0, "two borders that are one", api.ErrRail, func(d *api.Deck) { d.Borders = []float64{0, math.Copysign(0, -1)} }},
		{2, "5 plates", api.ErrLong, func(d *api.Deck) { d.Plates = append(slices.Clone(d.Plates), plate(1, 1), plate(1, 1)) }},
		{2, "5 racks", api.ErrLong, func(d *api.Deck) { d.Racks = append(slices.Clone(d.Racks), rack(1, 1), rack(1, 1)) }},
		{2, "1000 plates", api.ErrLong, func(d *api.Deck) { d.Plates = append(slices.Clone(d.Plates), make([]api.Plate, 997)...) }},
		{5, "too many wells", api.ErrLong, func(d *api.Deck) { d.Plates[1].Rows, d.Plates[1].Cols = 9, 48 }},
		{5, "too many tips", api.ErrLong, func(d *api.Deck) { d.Racks[1].Rows, d.Racks[1].Cols = 9, 48 }},
	}
	for _, arms := range []int{0, 9, -1, 10, 1000, most, least, 1 << 32} {
		l = append(l, fault{1, "arms " + strconv.Itoa(arms), api.ErrArms, func(d *api.Deck) { d.Arms = arms }})
	}
	for _, i := range []int{0, 2} {
		l = append(l, unitFaults(i)...)
	}
	slices.SortStableFunc(l, func(a, b fault) int { return a.rank - b.rank })
	return l
}

// unitFaults are faults of the plate and of the rack of that number.
func unitFaults(i int) []fault {
	var l []fault
	at := strconv.Itoa(i)
	add := func(what string, do func(p *api.Plate)) {
		l = append(l, fault{3, "plate " + at + " " + what, api.ErrPlate, func(d *api.Deck) { do(&d.Plates[i]) }})
	}
	for _, n := range []int{0, -1, most, least, 33, 49, 1 << 32, 1<<32 + 1} {
		s := strconv.Itoa(n)
		if n != 33 {
			add("cols "+s, func(p *api.Plate) { p.Start, p.Cols = nil, n })
			l = append(l, fault{4, "rack " + at + " cols " + s, api.ErrRack, func(d *api.Deck) { d.Racks[i].Cols = n }})
		}
		add("rows "+s, func(p *api.Plate) { p.Start, p.Rows = nil, n })
		l = append(l, fault{4, "rack " + at + " rows " + s, api.ErrRack, func(d *api.Deck) { d.Racks[i].Rows = n }})
	}
	for _, n := range []int{0, -1, most, least, api.MaxNano + 1} {
		add("cap "+strconv.Itoa(n), func(p *api.Plate) { p.Start, p.Cap = nil, n })
	}
	add("no cap, but a start", func(p *api.Plate) { p.Start, p.Cap = []int{0}, 0 })
	for _, n := range []int{101, -1, most, least} {
		add("start "+strconv.Itoa(n), func(p *api.Plate) { p.Start = []int{n} })
		add("last start "+strconv.Itoa(n), func(p *api.Plate) { p.Start = append(make([]int, p.Rows*p.Cols-1), n) })
	}
	add("one start too many", func(p *api.Plate) { p.Start = make([]int, p.Rows*p.Cols+1) })
	add("1000 starts", func(p *api.Plate) { p.Start = make([]int, 1000) })
	return l
}

// P8.1

func TestCheckDescribed(t *testing.T) {
	for i, d := range decks() {
		if err := deck.Check(d); err != api.OK {
			t.Error(i, err)
		}
	}
	for arms := -3; arms < 20; arms++ {
		d := three()
		d.Arms = arms
		if err := deck.Check(d); (err == api.OK) != (arms >= 1 && arms <= 8) {
			t.Error("arms", arms, err)
		}
	}
}

func TestCheckEdges(t *testing.T) {
	for i, c := range []struct {
		plate api.Plate
		err   api.Errno
	}{
		{api.Plate{Rows: 1, Cols: 1, Cap: 1}, api.OK}, {api.Plate{Rows: 32, Cols: 12, Cap: 1}, api.OK}, {api.Plate{Rows: 8, Cols: 48, Cap: 1}, api.OK}, {api.Plate{Rows: 1, Cols: 1, Cap: api.MaxNano}, api.OK}, {api.Plate{Rows: 1, Cols: 1, Cap: api.MaxNano + 1}, api.ErrPlate},
		{api.Plate{Rows: 33, Cols: 1, Cap: 1}, api.ErrPlate}, {api.Plate{Rows: 1, Cols: 49, Cap: 1}, api.ErrPlate}, {api.Plate{Rows: 0, Cols: 1, Cap: 1}, api.ErrPlate}, {api.Plate{Rows: 1, Cols: 0, Cap: 1}, api.ErrPlate}, {api.Plate{Rows: 1, Cols: 1}, api.ErrPlate}, {api.Plate{}, api.ErrPlate}, {api.Plate{Rows: -2, Cols: -2, Cap: 1}, api.ErrPlate},
		{api.Plate{Rows: 32, Cols: 48, Cap: 1}, api.ErrLong}, {api.Plate{Rows: 11, Cols: 35, Cap: 1}, api.ErrLong}, {api.Plate{Rows: 16, Cols: 24, Cap: 1}, api.OK},
		{api.Plate{Rows: 2, Cols: 2, Cap: 9, Start: []int{}}, api.OK}, {api.Plate{Rows: 2, Cols: 2, Cap: 9, Start: []int{9, 0, 9}}, api.OK}, {api.Plate{Rows: 2, Cols: 2, Cap: 9, Start: []int{9, 9, 9, 9}}, api.OK}, {api.Plate{Rows: 2, Cols: 2, Cap: 9, Start: []int{0, 0, 0, 0, 0}}, api.ErrPlate}, {api.Plate{Rows: 2, Cols: 2, Cap: 9, Start: []int{9, 9, 10, 9}}, api.ErrPlate}, {api.Plate{Rows: 2, Cols: 2, Cap: 9, Start: []int{0, -1}}, api.ErrPlate}, {api.Plate{Rows: 1, Cols: 1, Cap: api.MaxNano, Start: []int{api.MaxNano}}, api.OK}, {api.Plate{Rows: 1, Cols: 1, Cap: 1, Start: []int{2}}, api.ErrPlate}, {api.Plate{Rows: 16, Cols: 24, Cap: 1, Start: make([]int, 384)}, api.OK}, {api.Plate{Rows: 16, Cols: 24, Cap: 1, Start: make([]int, 385)}, api.ErrPlate}, {api.Plate{Rows: 32, Cols: 48, Cap: 1, Start: make([]int, 1537)}, api.ErrPlate}, {api.Plate{Rows: 32, Cols: 48, Cap: 1, Start: make([]int, 1536)}, api.ErrLong},
	} {
		d := small()
		d.Plates = []api.Plate{c.plate}
		if err := deck.Check(d); err != c.err {
			t.Error(i, err)
		}
	}
	for i, c := range []struct {
		rack api.Rack
		err  api.Errno
	}{
		{rack(1, 1), api.OK}, {rack(32, 12), api.OK}, {rack(8, 48), api.OK}, {rack(16, 24), api.OK}, {rack(33, 1), api.ErrRack}, {rack(1, 49), api.ErrRack}, {rack(0, 1), api.ErrRack}, {rack(1, 0), api.ErrRack}, {rack(0, 0), api.ErrRack}, {rack(-2, -2), api.ErrRack}, {rack(-1, 1), api.ErrRack}, {rack(1, -1), api.ErrRack}, {rack(most, most), api.ErrRack}, {rack(least, 1), api.ErrRack}, {rack(32, 48), api.ErrLong}, {rack(11, 35), api.ErrLong}, {rack(33, 48), api.ErrRack},
	} {
		d := small()
		d.Racks = []api.Rack{c.rack}
		if err := deck.Check(d); err != c.err {
			t.Error(i, err)
		}
	}
}

// TestCheckSums holds decks of just as many plates, racks, wells and tips as there may be, and of one more.
func TestCheckSums(t *testing.T) {
	for i, c := range []struct {
		sizes [][2]int
		err   api.Errno
	}{
		{nil, api.OK}, {[][2]int{{1, 1}, {1, 1}, {1, 1}}, api.OK}, {[][2]int{{1, 1}, {1, 1}, {1, 1}, {1, 1}}, api.OK}, {[][2]int{{1, 1}, {1, 1}, {1, 1}, {1, 1}, {1, 1}}, api.ErrLong},
		{[][2]int{{8, 12}, {8, 12}, {8, 12}, {8, 12}}, api.OK}, {[][2]int{{8, 12}, {8, 12}, {8, 12}, {8, 12}, {0, 0}}, api.ErrLong}, {[][2]int{{8, 12}, {8, 12}, {8, 12}, {9, 12}}, api.ErrLong},
		{[][2]int{{16, 24}}, api.OK}, {[][2]int{{16, 24}, {1, 1}}, api.ErrLong}, {[][2]int{{1, 1}, {16, 24}}, api.ErrLong}, {[][2]int{{11, 35}}, api.ErrLong}, {[][2]int{{32, 12}, {1, 1}}, api.ErrLong},
		{[][2]int{{8, 47}, {1, 7}, {1, 1}}, api.OK}, {[][2]int{{8, 47}, {1, 8}, {1, 1}}, api.ErrLong}, {[][2]int{{8, 47}, {1, 7}, {1, 2}}, api.ErrLong}, {[][2]int{{8, 47}, {1, 7}, {1, 1}, {1, 1}}, api.ErrLong}, {[][2]int{{32, 48}, {32, 48}, {32, 48}, {32, 48}}, api.ErrLong},
	} {
		plates, racks := small(), small()
		plates.Plates, racks.Racks = nil, nil
		for _, size := range c.sizes {
			plates.Plates = append(plates.Plates, plate(size[0], size[1]))
			racks.Racks = append(racks.Racks, rack(size[0], size[1]))
		}
		if err := deck.Check(plates); err != c.err {
			t.Error("plates", i, err)
		}
		if err := deck.Check(racks); err != c.err {
			t.Error("racks", i, err)
		}
	}
}

func TestCheckTellsTheFirstFault(t *testing.T) {
	all := faults()
	for i, a := range all {
		d := three()
		a.do(&d)
		if err := deck.Check(d); err != a.err {
			t.Error(a.what, err)
		}
		for _, b := range all[i:] {
			if a.rank == b.rank { // they may undo each other
				continue
			}
			d := three()
			a.do(&d)
			b.do(&d)
			if err := deck.Check(d); err != a.err {
				t.Error(a.what, "and", b.what, err)
			}
		}
	}
	for some := range 1 << 6 {
		d, want := three(), api.OK
		for rank, what := range []string{"a no-number", "arms 0", "5 plates", "plate 2 cap 0", "rack 2 cols 0", "too many wells"} {
			if some>>rank&1 == 0 {
				continue
			}
			f := all[slices.IndexFunc(all, func(f fault) bool { return f.what == what })]
			f.do(&d)
			if want == api.OK {
				want = f.err
			}
		}
		if err := deck.Check(d); err != want {
			t.Error(some, err, want)
		}
	}
}

// P8.2

func TestCountsPartId(t *testing.T) {
	for i, d := range decks() {
		want, counts := listed(d)
		if wells, tips, lanes := deck.Counts(d); [3]int{wells, tips, lanes} != counts {
			t.Error(i, wells, tips, lanes, counts)
		}
		for id, k := range want {
			if p, err := deck.Part(d, id); p != k.part || err != api.OK {
				t.Fatal(i, id, p, err, k.part)
			}
			if n, err := deck.Id(d, k.part); n != id || err != api.OK {
				t.Fatal(i, k.part, n, err, id)
			}
		}
		for _, id := range []int{-1, -2, -len(want), len(want), len(want) + 1, 2 * len(want), most, least, least + len(want), 1 << 32} {
			if p, err := deck.Part(d, id); p != (api.Part{}) || err != api.ErrNone {
				t.Error(i, id, p, err)
			}
		}
	}
}

func TestEdgesOfTheKinds(t *testing.T) {
	d := small()
	for id, want := range []api.Part{part(1, 0, 0, 0), part(1, 0, 0, 1), part(1, 0, 0, 2), part(1, 0, 1, 0), part(1, 0, 1, 1), part(1, 0, 1, 2), part(2, 0, 0, 0), part(2, 0, 0, 1), part(3, 0, 0, 0), part(3, 1, 0, 0)} {
		if p, err := deck.Part(d, id); p != want || err != api.OK {
			t.Error(id, p, err)
		}
	}
	for id, name := range map[int]string{4: "P0.B2", 7: "T0.A2", 9: "L1"} {
		if s := deck.Name(d, id); s != name {
			t.Error(id, s)
		}
	}
	if wells, tips, lanes := deck.Counts(full()); wells != 384 || tips != 384 || lanes != 24 {
		t.Error(wells, tips, lanes)
	}
}

// TestIdOfNoPart holds all parts of small numbers against those that there are.
func TestIdOfNoPart(t *testing.T) {
	for i, d := range decks() {
		want, _ := listed(d)
		ids := map[api.Part]int{}
		for id, k := range want {
			ids[k.part] = id
		}
		for kind := -1; kind <= 5; kind++ {
			for unit := -1; unit <= 25; unit++ {
				for _, row := range []int{-1, 0, 1, 2, 3, 7, 8, 9, 31, 32, most, least, 1 << 32} {
					for _, col := range []int{-2, -1, 0, 1, 2, 3, 11, 12, 13, 47, 48, most, least, 1 << 32} {
						p := part(kind, unit, row, col)
						id, there := ids[p]
						n, err := deck.Id(d, p)
						if n != id || (err == api.OK) != there || !there && err != api.ErrNone {
							t.Fatal(i, p, n, err)
						}
					}
				}
			}
		}
		for _, n := range []int{most, least, 1 << 32, 256} {
			for _, p := range []api.Part{part(n, 0, 0, 0), part(api.PartWell, n, 0, 0), part(api.PartTip, n, 0, 0), part(api.PartLane, n, 0, 0), part(api.PartLane, 0, n, 0), part(api.PartLane, 0, 0, n), part(n, n, n, n)} {
				if id, err := deck.Id(d, p); id != 0 || err != api.ErrNone {
					t.Error(i, p, id, err)
				}
			}
		}
	}
}

// P8.3

func TestNameFindCapStart(t *testing.T) {
	for i, d := range decks() {
		want, _ := listed(d)
		for id, k := range want {
			if s := deck.Name(d, id); s != k.name {
				t.Fatal(i, id, s, k.name)
			}
			if n, err := deck.Find(d, k.name); n != id || err != api.OK {
				t.Fatal(i, k.name, n, err, id)
			}
			if most, first := deck.Cap(d, id), deck.Start(d, id); most != k.cap || first != k.start {
				t.Fatal(i, id, most, first, k)
			}
		}
		for _, id := range []int{-1, -2, -len(want), len(want), len(want) + 1, most, least} {
			if s, most, first := deck.Name(d, id), deck.Cap(d, id), deck.Start(d, id); s != "" || most != 0 || first != 0 {
				t.Error(i, id, s, most, first)
			}
		}
	}
}

// noNames are texts that are no part's name on a deck like three.
var noNames = strings.Fields(`
	P T L P0 T0 P1 L. L0. .L0 L0.A1 L0.0 P. T. P.A1 T.A1 P0. P0.. P0..A1 P0.A1. .P0.A1 P0.A P0.1 P0.A1.A1 P0A1 P0,A1 P0:A1 P0.A1,A2 P0.A1:A1 P0.A1,A1 P0-A1
	P00.A1 P01.A1 P000.A1 T00.A1 T01.A1 L00 L01 L001 P+0.A1 P-0.A1 P-1.A1 T-0.A1 T-1.A1 L-0 L-1 L+1 P0x0.A1 L0x1 L1e0 P0.A01 P0.A0 P0.A00 P0.A001 T0.A0 T0.A01 P0.A+1 P0.A-1
	p0.A1 t0.A1 l0 P0.a1 T0.a1 p0.a1 Q0.A1 A0.A1 A1 B2 0 1 0.A1 P٠.A1 Ρ0.A1 Р0.A1 Ｐ0.A1 P0.Ａ1 P0．A1 P1.B1 P1.A2 P0.C1 P0.A4 P2.D1 P2.A3 P3.A1 P4.A1 T0.A3 T0.C1 T1.A2 T2.E1 T2.B2 T3.A1 L4 L5 L24
	P0.AA1 P0.AF48 P0.AG1 P0.Z1 P0.A48 P0.A49 P0.BA1 P256.A1 P4294967296.A1 P9223372036854775807.A1 P9223372036854775808.A1 P18446744073709551616.A1 L4294967296 L9223372036854775807 L9223372036854775808 L18446744073709551616 P0.A18446744073709551617
	PP0.A1 PT0.A1 LL0 LP0.A1 LT0.A1 TP0.A1 TL0 PL0 L0L0 L0,L1 L0:L1 P0.A1P0.A1 *`)

func TestFindRefusesWhatIsNoName(t *testing.T) {
	d := three()
	l := append(slices.Clone(noNames), "", " ", "P0.A1 ", " P0.A1", "P 0.A1", "P0 .A1", "P0. A1", "P0.A 1", "L0 ", " L0", "L 0", "L0\n", "P0.A1\n", "P0.A1\x00", "L0\x00", "\x00L0", "\xffL0", "L\xff0", "L0\xff", "\xff", "\xd00.A1")
	l = append(l, strings.Repeat("P", 1<<20), "L"+strings.Repeat("0", 1<<20), "P0."+strings.Repeat("A", 1<<20), strings.Repeat("P0.A1", 1<<18), "P"+strings.Repeat(".", 1<<20), "P0.A1"+strings.Repeat(" ", 1<<20), "L"+strings.Repeat("0", 1<<20)+"1")
	for _, s := range l {
		if n, err := deck.Find(d, s); n != 0 || err != api.ErrNone {
			t.Errorf("%.60q %d %v", s, n, err)
		}
	}
}

// idsOf are the ids of all names.
func idsOf(d api.Deck) map[string]int {
	ids := map[string]int{}
	all, _ := listed(d)
	for id, k := range all {
		ids[k.name] = id
	}
	return ids
}

// found holds what Find answers against the ids of all names.
func found(t *testing.T, d api.Deck, ids map[string]int, s string) {
	t.Helper()
	id, there := ids[s]
	n, err := deck.Find(d, s)
	if n != id || (err == api.OK) != there || !there && err != api.ErrNone {
		t.Fatalf("%q %d %v", s, n, err)
	}
}

// TestFindShortTexts asks for all texts of up to 5 of some signs.
func TestFindShortTexts(t *testing.T) {
	d := three()
	ids := idsOf(d)
	var all func(s string, more int)
	all = func(s string, more int) {
		found(t, d, ids, s)
		if more == 0 {
			return
		}
		for _, c := range "PTLp.012AB-" {
			all(s+string(c), more-1)
		}
	}
	all("", 5)
}

// TestFindNamesWithASlip asks for names with one sign put in, left out or changed.
func TestFindNamesWithASlip(t *testing.T) {
	r := rand.New(rand.NewSource(1))
	d := full()
	ids, all := idsOf(d), len(idsOf(d))
	for range 100000 {
		s := []byte(deck.Name(d, r.Intn(all)))
		at := r.Intn(len(s))
		sign := "PTL.0123456789ABFHZ -+,:a\xff"[r.Intn(26)]
		switch r.Intn(3) {
		case 0:
			s = slices.Insert(s, at, sign)
		case 1:
			s = slices.Delete(s, at, at+1)
		default:
			s[at] = sign
		}
		found(t, d, ids, string(s))
	}
}

func TestStart(t *testing.T) {
	d := api.Deck{Borders: borders(3), Arms: 1, Racks: []api.Rack{rack(1, 2)}, Plates: []api.Plate{
		{Rows: 2, Cols: 3, Cap: 50, Start: []int{50, 0, 7, 9}},
		{Rows: 1, Cols: 2, Cap: api.MaxNano, Start: []int{1, api.MaxNano}},
		{Rows: 1, Cols: 1, Cap: 1},
	}}
	caps := []int{50, 50, 50, 50, 50, 50, api.MaxNano, api.MaxNano, 1, 0, 0, 0, 0, 0}
	firsts := []int{50, 0, 7, 9, 0, 0, 1, api.MaxNano, 0, 0, 0, 0, 0, 0}
	for id := range caps {
		if most, first := deck.Cap(d, id), deck.Start(d, id); most != caps[id] || first != firsts[id] {
			t.Error(id, most, first)
		}
	}
}

// Of P8.2 and P8.3 what is told of a deck that is not described.
func TestRefusedDecks(t *testing.T) {
	for _, f := range faults() {
		d := three()
		f.do(&d)
		if wells, tips, lanes := deck.Counts(d); wells != 0 || tips != 0 || lanes != 0 {
			t.Error(f.what, wells, tips, lanes)
		}
		for _, id := range []int{0, 1, 6, 8, 13, 17, 22, 25, -1, 26, most, least} {
			if p, err := deck.Part(d, id); p != (api.Part{}) || err != f.err {
				t.Error(f.what, id, p, err)
			}
			if s, most, first := deck.Name(d, id), deck.Cap(d, id), deck.Start(d, id); s != "" || most != 0 || first != 0 {
				t.Error(f.what, id, s, most, first)
			}
		}
		for _, p := range []api.Part{part(1, 0, 0, 1), part(2, 2, 3, 0), part(3, 1, 0, 0), part(3, 1, 1, 0), part(0, 0, 0, 0), part(1, -1, 0, 0), {}} {
			if id, err := deck.Id(d, p); id != 0 || err != f.err {
				t.Error(f.what, p, id, err)
			}
		}
		for _, s := range []string{"P0.A2", "T2.D1", "L1", "L99", "", "x", "P0.A01"} {
			if id, err := deck.Find(d, s); id != 0 || err != f.err {
				t.Error(f.what, s, id, err)
			}
		}
	}
}

// P8.4

// anyDeck is a deck that is described.
func anyDeck(r *rand.Rand) api.Deck {
	d := api.Deck{Borders: borders(2 + r.Intn(24)), Arms: 1 + r.Intn(8)}
	for range r.Intn(5) {
		p := plate(1+r.Intn(8), 1+r.Intn(12))
		p.Cap = 1 + r.Intn(api.MaxNano)
		p.Start = startOf(r.Intn(p.Rows*p.Cols+1), p.Cap)
		d.Plates = append(d.Plates, p)
	}
	for range r.Intn(5) {
		d.Racks = append(d.Racks, rack(1+r.Intn(12), 1+r.Intn(8)))
	}
	return d
}

func TestEachIdHasOnePartAndOneName(t *testing.T) {
	r := rand.New(rand.NewSource(2))
	for range 200 {
		d := anyDeck(r)
		wells, tips, lanes := deck.Counts(d)
		parts, names := map[api.Part]bool{}, map[string]bool{}
		for id := range wells + tips + lanes {
			p, err := deck.Part(d, id)
			name := deck.Name(d, id)
			if err != api.OK || name == "" || parts[p] || names[name] {
				t.Fatal(d, id, p, err, name)
			}
			parts[p], names[name] = true, true
			if n, err := deck.Id(d, p); n != id || err != api.OK {
				t.Fatal(d, p, n, err)
			}
			if n, err := deck.Find(d, name); n != id || err != api.OK {
				t.Fatal(d, name, n, err)
			}
		}
		if p, err := deck.Part(d, wells+tips+lanes); p != (api.Part{}) || err != api.ErrNone {
			t.Fatal(d, p, err)
		}
	}
}

// R3: what is handed in stays as it was, and so does what lies behind its end.
func TestNothingIsChanged(t *testing.T) {
	given, was := full(), full()
	start := append(startOf(5, 1000), 7, 8, 9)
	given.Plates[0].Start, was.Plates[0].Start = start[:5], startOf(5, 1000)
	plates, racks := given.Plates, given.Racks
	given.Plates, given.Racks = plates[:3], racks[:3]
	deck.Check(given)
	deck.Counts(given)
	for id := range 300 {
		p, _ := deck.Part(given, id)
		deck.Id(given, p)
		deck.Find(given, deck.Name(given, id))
		deck.Cap(given, id)
		deck.Start(given, id)
	}
	if !slices.Equal(given.Borders, was.Borders) || given.Arms != was.Arms || !slices.Equal(racks, was.Racks) || !slices.Equal(start[5:], []int{7, 8, 9}) {
		t.Error("changed")
	}
	same := func(a, b api.Plate) bool {
		return a.Rows == b.Rows && a.Cols == b.Cols && a.X == b.X && a.Pitch == b.Pitch && a.Reach == b.Reach && a.Cap == b.Cap && slices.Equal(a.Start, b.Start)
	}
	if !slices.EqualFunc(plates, was.Plates, same) {
		t.Error("changed plates")
	}
}
