package well_test

import (
	"math/rand"
	"slices"
	"strconv"
	"strings"
	"testing"

	"deckhand/api"
	"deckhand/well"
)

const (
	most  = 1<<63 - 1
	least = -1 << 63
)

// rows are the letters of all rows.
var rows = []string{"A", "B", "C", "D", "E", "F", "G", "H", "I", "J", "K", "L", "M", "N", "O", "P", "Q", "R", "S", "T", "U", "V", "W", "X", "Y", "Z", "AA", "AB", "AC", "AD", "AE", "AF"}

// at is a place.
func at(row, col int) api.Place { return api.Place{Row: row, Col: col} }

// nameOf is a place's name as the document has it.
func nameOf(p api.Place) string { return rows[p.Row] + strconv.Itoa(p.Col+1) }

// block is all places from the one to the other one, row by row.
func block(row, col, lastRow, lastCol int) []api.Place {
	var l []api.Place
	for r := row; r <= lastRow; r++ {
		for c := col; c <= lastCol; c++ {
			l = append(l, at(r, c))
		}
	}
	return l
}

// beyond are places that are none.
var beyond = []api.Place{at(-1, 0), at(0, -1), at(32, 0), at(0, 48), at(-1, -1), at(32, 48), at(31, 48), at(32, 47), at(26, -1), at(most, 0), at(0, most), at(least, 0), at(0, least), at(most, most), at(least, least), at(1<<32, 0), at(0, 1<<32), at(256, 0), at(0, 256)}

// noNames are texts that are no place's name.
var noNames = []string{
	"", "A", "AA", "1", "12", "0", "-1", ":", ",", " ", "A0", "A00", "A01", "A007", "AA01", "A+1", "A-1", "A-0", "AF-1", "A49", "A50", "A480", "A1000", "AF49", "A99999999999999999999", "A9223372036854775807", "A9223372036854775808", "A-9223372036854775808", "A18446744073709551617", "A4294967297", "A257",
	"AG1", "AH1", "AZ1", "BA1", "BF1", "ZZ1", "ZA1", "AAA1", "AAF1", "AAAA1", "FA1", "GRAU1", "AAAAAAAAAAAAAAAAAAAAAAA1", "AAAAAAAAAAAAA1",
	"a1", "b12", "aa1", "Aa1", "aA1", "af48", "Af48", "z1", "[1", "@1", "`1", "{1", "AA@1", "A@1", "A[1",
	" A1", "A1 ", "A 1", "A1\n", "\tA1", "A1,", ",A1", "A1:", ":A1", "A1:B2", "A1,B2", "A1A", "A1A1", "1A", "A1.", "A1.0", "A1e1", "A0x1", "A1_0", "A\x001", "A1\x00",
	"Ä1", "É1", "Α1", "А1", "Ａ1", "A１", "A٣", "A²", "ÀA1", "AÄ1", "\xff1", "A\xff", "A\xff1", "\xffA1", "A1\xff", "A\xc3\x841", "\u00c01", "Å1", "𝐀1", "A𝟏", "\ufffd1", "\u01411",
}

// P6.1 and P6.4

func TestRightNameParse(t *testing.T) {
	for row := -3; row < 40; row++ {
		for col := -3; col < 60; col++ {
			p := at(row, col)
			right := row >= 0 && row <= 31 && col >= 0 && col <= 47
			if well.Right(p) != right {
				t.Error("Right", p)
			}
			if !right {
				if name := well.Name(p); name != "" {
					t.Error("Name", p, name)
				}
				continue
			}
			name := well.Name(p)
			if name != nameOf(p) {
				t.Error("Name", p, name)
			}
			if back, err := well.Parse(name); back != p || err != api.OK {
				t.Error("Parse", name, back, err)
			}
		}
	}
	for _, p := range beyond {
		if well.Right(p) || well.Name(p) != "" {
			t.Error(p, well.Name(p))
		}
	}
}

func TestParse(t *testing.T) {
	for s, want := range map[string]api.Place{"A1": at(0, 0), "A48": at(0, 47), "B12": at(1, 11), "H12": at(7, 11), "Z1": at(25, 0), "Z48": at(25, 47), "AA1": at(26, 0), "AA10": at(26, 9), "AB2": at(27, 1), "AF1": at(31, 0), "AF48": at(31, 47), "P24": at(15, 23)} {
		if p, err := well.Parse(s); p != want || err != api.OK {
			t.Error(s, p, err)
		}
	}
	for _, s := range noNames {
		if p, err := well.Parse(s); p != (api.Place{}) || err != api.ErrWell {
			t.Errorf("%q %v %v", s, p, err)
		}
	}
	long := []string{strings.Repeat("A", 1<<20), strings.Repeat("A", 1<<20) + "1", "A" + strings.Repeat("1", 1<<20), "A" + strings.Repeat("0", 1<<20) + "1", strings.Repeat("Ä", 1<<20)}
	for _, s := range long {
		if p, err := well.Parse(s); p != (api.Place{}) || err != api.ErrWell {
			t.Error(s[:9], p, err)
		}
	}
}

// TestParseShortTexts holds all texts of up to 4 of some signs against the names of all places.
func TestParseShortTexts(t *testing.T) {
	names := map[string]api.Place{}
	for row := range rows {
		for col := range 48 {
			names[nameOf(at(row, col))] = at(row, col)
		}
	}
	signs := []string{"A", "B", "F", "G", "Z", "a", "0", "1", "4", "8", "9", "-", "+", ":", ",", " ", "Ä", "\xff"}
	texts := []string{""}
	for range 5 {
		var longer []string
		for _, s := range texts {
			want, ok := names[s]
			p, err := well.Parse(s)
			if p != want || (err == api.OK) != ok || !ok && err != api.ErrWell {
				t.Fatalf("%q %v %v", s, p, err)
			}
			for _, c := range signs {
				longer = append(longer, s+c)
			}
		}
		texts = longer
	}
}

// P6.2

func TestList(t *testing.T) {
	for _, c := range []struct {
		s    string
		want []api.Place
	}{
		{"", nil}, {"A1", block(0, 0, 0, 0)}, {"AF48", block(31, 47, 31, 47)}, {"A1,A1,A1", []api.Place{at(0, 0), at(0, 0), at(0, 0)}}, {"C3,A1,B2", []api.Place{at(2, 2), at(0, 0), at(1, 1)}},
		{"A1:B2,AA10", []api.Place{at(0, 0), at(0, 1), at(1, 0), at(1, 1), at(26, 9)}}, // the chapter's example
		{"B2:A1", block(0, 0, 1, 1)}, {"A2:B1", block(0, 0, 1, 1)}, {"B1:A2", block(0, 0, 1, 1)}, {"A1:B2", block(0, 0, 1, 1)}, {"A1:A1", block(0, 0, 0, 0)}, {"AF48:AF48", block(31, 47, 31, 47)}, {"A1:A3", block(0, 0, 0, 2)}, {"A3:A1", block(0, 0, 0, 2)}, {"A1:C1", block(0, 0, 2, 0)}, {"C1:A1", block(0, 0, 2, 0)},
		{"Y5:AB7", block(24, 4, 27, 6)}, {"AB5:Y7", block(24, 4, 27, 6)}, {"A1:H12", block(0, 0, 7, 11)}, {"A9:B10", block(0, 8, 1, 9)}, {"AF48:AE47", block(30, 46, 31, 47)},
		{"A1:A2,A2:A1", append(block(0, 0, 0, 1), block(0, 0, 0, 1)...)}, {"B1,A1:A2,C1", []api.Place{at(1, 0), at(0, 0), at(0, 1), at(2, 0)}},
		{"A1:P24", block(0, 0, 15, 23)}, {"P24:A1", block(0, 0, 15, 23)}, {"A1:H48", block(0, 0, 7, 47)}, {"A1:AF12", block(0, 0, 31, 11)}, {"AF48:Y1", block(24, 0, 31, 47)},
		{"A1:P12,A13:P24", append(block(0, 0, 15, 11), block(0, 12, 15, 23)...)}, {"A1:P23,A24:P24", append(block(0, 0, 15, 22), block(0, 23, 15, 23)...)},
	} {
		if l, err, i := well.List(c.s); !slices.Equal(l, c.want) || err != api.OK || i != 0 {
			t.Error(c.s, l, err, i)
		}
	}
}

// listRefused holds what List answers against a refusal.
func listRefused(t *testing.T, s string, want api.Errno, piece int) {
	t.Helper()
	if l, err, i := well.List(s); len(l) != 0 || err != want || i != piece {
		t.Errorf("%.40q %d %v %d", s, len(l), err, i)
	}
}

func TestListRefusesPieces(t *testing.T) {
	for _, c := range []struct {
		s     string
		piece int
	}{
		{",", 0}, {",A1", 0}, {"A1,", 1}, {",,", 0}, {"A1,,B2", 1}, {"A1,B2,", 2}, {"A1:B2,", 1}, {"A1:B2,AA10,", 2}, {" ", 0}, {"A1, B2", 1}, {"A1 ,B2", 0}, {"A1;B2", 0}, {"A1\n", 0},
		{":", 0}, {"A1:", 0}, {":A1", 0}, {"A1::B2", 0}, {"A1:B2:C3", 0}, {"A1:B2:", 0}, {"A1,:", 1}, {"A1,A1:", 1}, {"A1 : B2", 0}, {"A1-B2", 0}, {"A1..B2", 0}, {"A1:49", 0}, {"A1:12", 0}, {"A1:B", 0}, {"A:B", 0}, {"1:2", 0},
		{"B2,A0", 1}, {"B2,a1,A0", 1}, {"B2,C3,A01", 2}, {"A1:B2,A1:B49", 1}, {"A1:AG1", 0}, {"AG1:A1", 0}, {"A0:A1", 0}, {"A1:A0", 0}, {"A1:a1", 0}, {"Ä1,A1", 0}, {"A1,Ä1", 1}, {"A1:Ä1", 0}, {"A1，B2", 0}, {"A1：B2", 0}, {"A1,\xff", 1}, {"\xff,A1", 0},
		{"A1:P24,x", 1}, {"A1:P24,", 1}, {"A1:P24,x,A1", 1}, {"x,A1:AF48", 0}, {"A1:P24,A1:x", 1}, {"A1:AF48x", 0},
	} {
		listRefused(t, c.s, api.ErrWell, c.piece)
	}
	for _, s := range noNames {
		if s == "" || strings.ContainsAny(s, ",:") {
			continue
		}
		listRefused(t, s, api.ErrWell, 0)
		listRefused(t, "B2,"+s, api.ErrWell, 1)
		listRefused(t, "B2,A1:"+s+",C3", api.ErrWell, 1)
		listRefused(t, "B2,C3:D4,"+s+":A1", api.ErrWell, 2)
	}
}

func TestListRefusesTooMany(t *testing.T) {
	full := strings.Repeat("A1,", 383) + "A1"
	if l, err, i := well.List(full); len(l) != 384 || err != api.OK || i != 0 {
		t.Error(len(l), err, i)
	}
	for _, c := range []struct {
		s     string
		err   api.Errno
		piece int
	}{
		{full + ",A1", api.ErrLong, 384}, {full + ",x", api.ErrWell, 384}, {full + ",A1,x", api.ErrLong, 384}, {full + ",x,A1", api.ErrWell, 384}, {strings.Repeat("A1,", 100000), api.ErrLong, 384},
		{"A1:AF48", api.ErrLong, 0}, {"AF48:A1", api.ErrLong, 0}, {"A1:AF13", api.ErrLong, 0}, {"A1:I48", api.ErrLong, 0}, {"A1:P25", api.ErrLong, 0}, {"A1:K35", api.ErrLong, 0}, // 385 = 11 * 35
		{"A1:P24,A1", api.ErrLong, 1}, {"A1,A1:P24", api.ErrLong, 1}, {"A1,B1,A1:P24,x", api.ErrLong, 2}, {"A1:P23,A1:P2,A1", api.ErrLong, 1}, {"A1:P24,A1:P24", api.ErrLong, 1}, {"A1:P12,A13:P24,AF48", api.ErrLong, 2}, {"A1:AF48,x", api.ErrLong, 0}, {"x,A1:AF48", api.ErrWell, 0},
	} {
		listRefused(t, c.s, c.err, c.piece)
	}
}

// P6.3 and P6.4

func TestText(t *testing.T) {
	for _, c := range []struct {
		l    []api.Place
		want string
	}{
		{nil, ""}, {[]api.Place{}, ""}, {[]api.Place{at(0, 0)}, "A1"}, {[]api.Place{at(1, 11), at(0, 0), at(31, 47)}, "B12,A1,AF48"}, {[]api.Place{at(0, 0), at(0, 0)}, "A1,A1"}, {block(0, 0, 1, 1), "A1,A2,B1,B2"}, {[]api.Place{at(26, 9), at(25, 9)}, "AA10,Z10"},
	} {
		if s := well.Text(c.l); s != c.want {
			t.Error(c.l, s)
		}
	}
	for _, p := range beyond {
		for _, l := range [][]api.Place{{p}, {p, at(0, 0)}, {at(0, 0), p}, {at(0, 0), p, at(1, 1)}} {
			if s := well.Text(l); s != "" {
				t.Error(l, s)
			}
		}
	}
	if s := well.Text(block(0, 0, 31, 47)); strings.Count(s, ",") != 1535 || !strings.HasPrefix(s, "A1,A2,") || !strings.HasSuffix(s, ",AF47,AF48") {
		t.Error(len(s))
	}
}

func TestTextOfAnyPlaces(t *testing.T) {
	r := rand.New(rand.NewSource(1))
	for _, n := range []int{0, 1, 2, 3, 10, 100, 383, 384, 385, 400} {
		for range 50 {
			l := make([]api.Place, n)
			names := make([]string, n)
			for i := range l {
				l[i] = at(r.Intn(32), r.Intn(48))
				names[i] = nameOf(l[i])
			}
			s := well.Text(l)
			if s != strings.Join(names, ",") {
				t.Fatal(l, s)
			}
			if n > 384 {
				listRefused(t, s, api.ErrLong, 384)
				continue
			}
			if back, err, i := well.List(s); !slices.Equal(back, l) || err != api.OK || i != 0 {
				t.Fatal(l, s, back, err, i)
			}
		}
	}
}

// R3: what is handed in stays as it was.

func TestTextChangesNothing(t *testing.T) {
	all := block(0, 0, 3, 3)
	given := slices.Clone(all)
	well.Text(given[:5])
	if !slices.Equal(given, all) {
		t.Error(given)
	}
}
