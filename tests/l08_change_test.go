package tests

import (
	"slices"
	"strconv"
	"testing"

	"loop.example/g00600/impl"
)

// wantGrid asks for a grid, and that it is right.
func wantGrid(t *testing.T, what string, given impl.Grid, got impl.Grid, want impl.Grid) {
	t.Helper()
	if !modelGrid(want) {
		t.Fatalf("%s: the test itself is wrong: %s", what, brief(want))
	}
	if !sameGrid(got, want) || !impl.GridOk(got) {
		t.Errorf("%s of %s\nis %s\nwant %s", what, brief(given), brief(got), brief(want))
	}
}

func wantNoGrid(t *testing.T, what string, given impl.Grid, got impl.Grid) {
	t.Helper()
	if !sameGrid(got, impl.Grid{}) {
		t.Errorf("%s of %s is %s", what, brief(given), brief(got))
	}
}

func wantGridGo(t *testing.T, given impl.Grid, x int, y int, wantX int, wantY int) {
	t.Helper()
	what := "GridGo to column " + strconv.Itoa(x) + " of row " + strconv.Itoa(y)
	want := cursorAt(cloneGrid(given), wantX, wantY)
	want.Wrap = false
	wantGrid(t, what, given, impl.GridGo(given, x, y), want)
}

func TestGridGo(t *testing.T) {
	const top = int(^uint(0) >> 1)
	for _, given := range []impl.Grid{someGrid(), cursorAt(someGrid(), 5, 3), wrappedIn(someGrid(), 0), wrappedIn(someGrid(), 3)} {
		// Columns and rows that are asked for, and those that come.
		columns := map[int]int{-top - 1: 0, -6: 0, -1: 0, 0: 0, 1: 1, 4: 4, 5: 5, 6: 5, 7: 5, 1 << 32: 5, top: 5}
		rows := map[int]int{-top - 1: 0, -4: 0, -1: 0, 0: 0, 1: 1, 2: 2, 3: 3, 4: 3, 5: 3, 1 << 32: 3, top: 3}
		for x, wantX := range columns {
			for y, wantY := range rows {
				wantGridGo(t, given, x, y, wantX, wantY)
			}
		}
	}
	wantGridGo(t, wrappedIn(gridOf(2, "中"), 0), 1, 0, 1, 0)
	wantGridGo(t, wrappedIn(gridOf(2, "中"), 0), 9, 9, 1, 0)
	wantGridGo(t, wrappedIn(gridOf(2, "ab"), 0), -1, -1, 0, 0)
	for _, given := range wrongGrids() {
		wantNoGrid(t, "GridGo", given, impl.GridGo(given, 0, 0))
		wantNoGrid(t, "GridGo", given, impl.GridGo(given, given.X, given.Y))
	}
}

func wantGridScroll(t *testing.T, given impl.Grid, rows ...string) {
	t.Helper()
	want := gridOf(given.W, rows...)
	want.X, want.Y, want.Wrap = given.X, given.Y, given.Wrap
	wantGrid(t, "GridScroll", given, impl.GridScroll(given), want)
}

func TestGridScroll(t *testing.T) {
	wantGridScroll(t, gridOf(2, "ab"), "")
	wantGridScroll(t, gridOf(2, "中"), "")
	wantGridScroll(t, gridOf(2, ""), "")
	wantGridScroll(t, wrappedIn(gridOf(3, "a中"), 0), "")
	wantGridScroll(t, gridOf(2, "ab", "中"), "中", "")
	wantGridScroll(t, gridOf(2, "中", "ab"), "ab", "")
	wantGridScroll(t, gridOf(3, "a中", "中b", "c"), "中b", "c", "")
	for _, given := range []impl.Grid{someGrid(), cursorAt(someGrid(), 0, 0), cursorAt(someGrid(), 5, 3), wrappedIn(someGrid(), 0), wrappedIn(someGrid(), 3)} {
		wantGridScroll(t, given, "中cd中", "", " e 字f", "")
	}
	for _, given := range wrongGrids() {
		wantNoGrid(t, "GridScroll", given, impl.GridScroll(given))
	}
}

// Row by row all goes out at the top.
func TestGridScrollAgainAndAgain(t *testing.T) {
	rows := []string{"abc", "中d", "", "e中", "f", " g", "  h", "i", "中 ", "j"}
	now := wrappedIn(gridOf(3, rows...), 4)
	for range 12 {
		rows = append(rows[1:], "")
		wantGridScroll(t, now, rows...)
		now = impl.GridScroll(now)
	}
	for _, sides := range [][2]int{{200, 40}, {40, 200}, {2, 200}} {
		g := impl.Grid{W: sides[0], H: sides[1], Cells: blanks(sides[0] * sides[1])}
		for at := range g.Cells {
			g.Cells[at] = 'a' + at%26
		}
		wantGrid(t, "GridScroll", g, impl.GridScroll(g), modelScroll(g))
	}
}

func wantGridClear(t *testing.T, given impl.Grid, from int, to int, rows ...string) {
	t.Helper()
	want := gridOf(given.W, rows...)
	want.X, want.Y, want.Wrap = given.X, given.Y, given.Wrap
	wantGrid(t, "GridClear from "+strconv.Itoa(from)+" to "+strconv.Itoa(to), given, impl.GridClear(given, from, to), want)
}

func TestGridClear(t *testing.T) {
	for _, g := range []impl.Grid{gridOf(4, "abcd", "efgh", "ijkl"), wrappedIn(gridOf(4, "abcd", "efgh", "ijkl"), 1), cursorAt(gridOf(4, "abcd", "efgh", "ijkl"), 2, 2)} {
		wantGridClear(t, g, 0, 1, " bcd", "efgh", "ijkl")
		wantGridClear(t, g, 5, 6, "abcd", "e gh", "ijkl")
		wantGridClear(t, g, 5, 7, "abcd", "e  h", "ijkl")
		wantGridClear(t, g, 3, 4, "abc", "efgh", "ijkl")
		wantGridClear(t, g, 4, 8, "abcd", "", "ijkl")
		wantGridClear(t, g, 2, 10, "ab", "", "  kl")
		wantGridClear(t, g, 11, 12, "abcd", "efgh", "ijk")
		wantGridClear(t, g, 0, 12, "", "", "")
	}
}

func TestGridClearOfPlacesThatAreNotThere(t *testing.T) {
	const top = int(^uint(0) >> 1)
	g := gridOf(4, "abcd", "efgh", "ijkl")
	for _, below := range []int{-top - 1, -top, -1 << 32, -12, -2, -1, 0} {
		wantGridClear(t, g, below, 2, "  cd", "efgh", "ijkl")
		wantGridClear(t, g, below, 0, "abcd", "efgh", "ijkl")
		wantGridClear(t, g, below, -1, "abcd", "efgh", "ijkl")
		wantGridClear(t, g, below, -top-1, "abcd", "efgh", "ijkl")
		wantGridClear(t, g, below, 1, " bcd", "efgh", "ijkl")
	}
	for _, above := range []int{12, 13, 24, 1 << 32, top - 1, top} {
		wantGridClear(t, g, 10, above, "abcd", "efgh", "ij")
		wantGridClear(t, g, 12, above, "abcd", "efgh", "ijkl")
		wantGridClear(t, g, 13, above, "abcd", "efgh", "ijkl")
		wantGridClear(t, g, top, above, "abcd", "efgh", "ijkl")
		wantGridClear(t, g, 11, above, "abcd", "efgh", "ijk")
		wantGridClear(t, g, -above, above, "", "", "")
	}
	wantGridClear(t, g, -top-1, top, "", "", "")
}

// Where to isn't above from no cell is named, not even in the midst of a wide rune.
func TestGridClearOfNothing(t *testing.T) {
	const top = int(^uint(0) >> 1)
	for _, g := range []impl.Grid{gridOf(4, "中ab", "c中d"), wrappedIn(gridOf(4, "中ab", "c中d"), 0)} {
		for from := -2; from < 11; from++ {
			for to := -2; to <= from; to++ {
				wantGridClear(t, g, from, to, "中ab", "c中d")
			}
			wantGridClear(t, g, from, -top-1, "中ab", "c中d")
			wantGridClear(t, g, top, from, "中ab", "c中d")
		}
		wantGridClear(t, g, top, -top-1, "中ab", "c中d")
	}
}

func TestGridClearOfHalves(t *testing.T) {
	g := gridOf(7, "中字a中", "中b中cd")
	wantGridClear(t, g, 0, 1, "  字a中", "中b中cd")
	wantGridClear(t, g, 1, 2, "  字a中", "中b中cd")
	wantGridClear(t, g, 0, 2, "  字a中", "中b中cd")
	wantGridClear(t, g, 1, 3, "    a中", "中b中cd")
	wantGridClear(t, g, 2, 3, "中  a中", "中b中cd")
	wantGridClear(t, g, 3, 4, "中  a中", "中b中cd")
	wantGridClear(t, g, 3, 5, "中   中", "中b中cd")
	wantGridClear(t, g, 4, 5, "中字 中", "中b中cd")
	wantGridClear(t, g, 3, 6, "中", "中b中cd")
	wantGridClear(t, g, 6, 8, "中字a", "  b中cd")
	wantGridClear(t, g, 6, 7, "中字a", "中b中cd")
	wantGridClear(t, g, 7, 8, "中字a中", "  b中cd")
	wantGridClear(t, g, 8, 11, "中字a中", "     cd")
	wantGridClear(t, g, 11, 13, "中字a中", "中b   d")
	wantGridClear(t, g, 10, 11, "中字a中", "中b  cd")
	wantGridClear(t, g, 1, 12, "", "     cd")
}

func TestGridClearAtTheEndsOfRows(t *testing.T) {
	g := wrappedIn(gridOf(4, "ab中", "中cd", "e中f"), 1)
	wantGridClear(t, g, 3, 4, "ab", "中cd", "e中f")
	wantGridClear(t, g, 2, 3, "ab", "中cd", "e中f")
	wantGridClear(t, g, 4, 5, "ab中", "  cd", "e中f")
	wantGridClear(t, g, 5, 6, "ab中", "  cd", "e中f")
	wantGridClear(t, g, 3, 5, "ab", "  cd", "e中f")
	wantGridClear(t, g, 5, 10, "ab中", "", "   f")
	wantGridClear(t, g, 1, 3, "a", "中cd", "e中f")
	wantGridClear(t, g, 6, 10, "ab中", "中", "   f")
	wantGridClear(t, g, 10, 11, "ab中", "中cd", "e  f")
	wantGridClear(t, g, 0, 4, "", "中cd", "e中f")
	wantGridClear(t, g, 4, 8, "ab中", "", "e中f")
	last := gridOf(2, "中", "字")
	wantGridClear(t, last, 3, 9, "中", "")
	wantGridClear(t, last, 2, 3, "中", "")
	wantGridClear(t, last, -9, 1, "", "字")
	wantGridClear(t, last, 1, 2, "", "字")
	wantGridClear(t, last, 1, 3, "", "")
}

func TestGridClearOfAllPlaces(t *testing.T) {
	for _, given := range []impl.Grid{someGrid(), wrappedIn(someGrid(), 2), gridOf(2, "中", "ab", "字"), gridOf(5, "中字a", "a中字", "中a字")} {
		n := len(given.Cells)
		for from := -2; from < n+3; from++ {
			for to := -2; to < n+3; to++ {
				wantGrid(t, "GridClear", given, impl.GridClear(given, from, to), modelClear(given, from, to))
			}
		}
	}
	for _, given := range wrongGrids() {
		wantNoGrid(t, "GridClear", given, impl.GridClear(given, 0, 24))
		wantNoGrid(t, "GridClear", given, impl.GridClear(given, 3, 3))
		wantNoGrid(t, "GridClear", given, impl.GridClear(given, 5, 1))
	}
}

// wantPut asks for the rows and the cursor behind a rune.
func wantGridPut(t *testing.T, given impl.Grid, r rune, x int, y int, wrap bool, rows ...string) impl.Grid {
	t.Helper()
	want := cursorAt(gridOf(given.W, rows...), x, y)
	want.Wrap = wrap
	got := impl.GridPut(given, int(r))
	wantGrid(t, "GridPut of "+string(r), given, got, want)
	return got
}

func TestGridPutOfNoWidth(t *testing.T) {
	none := append(farInts(), -1, 0, 1, 7, 8, 9, 10, 13, 27, 31, 127, 128, 159, 55296, 57343, impl.MaxRune+1)
	for _, given := range []impl.Grid{someGrid(), wrappedIn(someGrid(), 3), cursorAt(someGrid(), 5, 3), wrappedIn(gridOf(2, "中"), 0)} {
		for _, r := range none {
			wantGrid(t, "GridPut of "+strconv.Itoa(r), given, impl.GridPut(given, r), given)
		}
	}
}

func TestGridPutOfGridsThatAreNotRight(t *testing.T) {
	for _, given := range wrongGrids() {
		for _, r := range []int{0, 7, 'a', wide, -1, impl.MaxRune + 1} {
			wantNoGrid(t, "GridPut", given, impl.GridPut(given, r))
		}
	}
}

func TestGridPutOfWidthOne(t *testing.T) {
	g := gridOf(4, "", "")
	g = wantGridPut(t, g, 'a', 1, 0, false, "a", "")
	g = wantGridPut(t, g, ' ', 2, 0, false, "a", "")
	g = wantGridPut(t, g, 'b', 3, 0, false, "a b", "")
	g = wantGridPut(t, g, 'c', 3, 0, true, "a bc", "")
	g = wantGridPut(t, g, 'd', 1, 1, false, "a bc", "d")
	g = wantGridPut(t, g, 'e', 2, 1, false, "a bc", "de")
	g = wantGridPut(t, g, 'f', 3, 1, false, "a bc", "def")
	g = wantGridPut(t, g, 'g', 3, 1, true, "a bc", "defg")
	g = wantGridPut(t, g, 'h', 1, 1, false, "defg", "h")
	wantGridPut(t, cursorAt(g, 3, 1), 'i', 3, 1, true, "defg", "h  i")
	wantGridPut(t, cursorAt(g, 1, 0), ' ', 2, 0, false, "d fg", "h")
	wantGridPut(t, cursorAt(g, 0, 0), 'x', 1, 0, false, "xefg", "h")
	wantGridPut(t, wrappedIn(g, 0), 'x', 1, 1, false, "defg", "x")
	wantGridPut(t, wrappedIn(g, 1), 'x', 1, 1, false, "h", "x")
	wantGridPut(t, wrappedIn(g, 1), ' ', 1, 1, false, "h", "")
	for _, r := range []rune{32, 126, 160, 233, 769, 4351, 65533, 0x10ffff} {
		wantGridPut(t, gridOf(2, "ab"), r, 1, 0, false, string(r)+"b")
	}
}

func TestGridPutOfWidthTwo(t *testing.T) {
	g := gridOf(5, "", "")
	g = wantGridPut(t, g, '中', 2, 0, false, "中", "")
	g = wantGridPut(t, g, '字', 4, 0, false, "中字", "")
	g = wantGridPut(t, g, '中', 2, 1, false, "中字", "中")
	g = wantGridPut(t, g, 'a', 3, 1, false, "中字", "中a")
	g = wantGridPut(t, g, '字', 4, 1, true, "中字", "中a字")
	g = wantGridPut(t, g, '中', 2, 1, false, "中a字", "中")
	g = wantGridPut(t, g, 'b', 3, 1, false, "中a字", "中b")
	g = wantGridPut(t, g, 'c', 4, 1, false, "中a字", "中bc")
	g = wantGridPut(t, g, '字', 2, 1, false, "中bc", "字")
	wantGridPut(t, cursorAt(g, 3, 0), '中', 4, 0, true, "中b中", "字")
	wantGridPut(t, cursorAt(g, 2, 0), '中', 4, 0, false, "中中", "字")
	wantGridPut(t, cursorAt(g, 4, 0), '中', 2, 1, false, "中bc", "中")
	wantGridPut(t, wrappedIn(g, 0), '中', 2, 1, false, "中bc", "中")
	wantGridPut(t, wrappedIn(g, 1), '中', 2, 1, false, "字", "中")
	for _, ends := range wideRanges() {
		for _, r := range ends {
			wantGridPut(t, gridOf(3, "abc"), rune(r), 2, 0, false, string(rune(r))+"c")
		}
	}
}

// What stands in the last column stays there when a wide rune goes on to the next row.
func TestGridPutOfWidthTwoInTheLastColumn(t *testing.T) {
	wantGridPut(t, cursorAt(gridOf(3, "abc", "def"), 2, 0), '中', 2, 1, false, "abc", "中f")
	wantGridPut(t, cursorAt(gridOf(3, "abc", "def"), 2, 1), '中', 2, 1, false, "def", "中")
	wantGridPut(t, cursorAt(gridOf(3, "a字", "d字"), 2, 0), '中', 2, 1, false, "a字", "中")
	wantGridPut(t, cursorAt(gridOf(3, "a字", "字e"), 2, 0), '中', 2, 1, false, "a字", "中e")
	wantGridPut(t, cursorAt(gridOf(3, "a字"), 2, 0), '中', 2, 0, false, "中")
	wantGridPut(t, cursorAt(gridOf(3, "abc"), 1, 0), '中', 2, 0, true, "a中")
	wantGridPut(t, cursorAt(gridOf(3, "字c"), 1, 0), '中', 2, 0, true, " 中")
	wantGridPut(t, cursorAt(gridOf(2, "ab", "cd", "ef"), 1, 0), '中', 1, 1, true, "ab", "中", "ef")
}

func TestGridPutOverWideRunes(t *testing.T) {
	g := gridOf(6, "a中字b", "中")
	wantGridPut(t, cursorAt(g, 0, 0), 'x', 1, 0, false, "x中字b", "中")
	wantGridPut(t, cursorAt(g, 1, 0), 'x', 2, 0, false, "ax 字b", "中")
	wantGridPut(t, cursorAt(g, 2, 0), 'x', 3, 0, false, "a x字b", "中")
	wantGridPut(t, cursorAt(g, 3, 0), 'x', 4, 0, false, "a中x b", "中")
	wantGridPut(t, cursorAt(g, 4, 0), 'x', 5, 0, false, "a中 xb", "中")
	wantGridPut(t, cursorAt(g, 5, 0), 'x', 5, 0, true, "a中字x", "中")
	wantGridPut(t, cursorAt(g, 0, 0), '国', 2, 0, false, "国 字b", "中")
	wantGridPut(t, cursorAt(g, 1, 0), '国', 3, 0, false, "a国字b", "中")
	wantGridPut(t, cursorAt(g, 2, 0), '国', 4, 0, false, "a 国 b", "中")
	wantGridPut(t, cursorAt(g, 3, 0), '国', 5, 0, false, "a中国b", "中")
	wantGridPut(t, cursorAt(g, 4, 0), '国', 5, 0, true, "a中 国", "中")
	wantGridPut(t, cursorAt(g, 5, 0), '国', 2, 1, false, "a中字b", "国")
	wantGridPut(t, wrappedIn(g, 0), 'x', 1, 1, false, "a中字b", "x")
	wantGridPut(t, wrappedIn(g, 0), ' ', 1, 1, false, "a中字b", "")
	wantGridPut(t, cursorAt(g, 1, 1), 'x', 2, 1, false, "a中字b", " x")
	wantGridPut(t, cursorAt(g, 1, 0), ' ', 2, 0, false, "a  字b", "中")
	wantGridPut(t, cursorAt(g, 1, 0), '中', 3, 0, false, "a中字b", "中")
}

func TestGridPutInTheSmallestGrid(t *testing.T) {
	g := gridOf(2, "")
	a := wantGridPut(t, g, 'a', 1, 0, false, "a")
	wantGridPut(t, a, 'b', 1, 0, true, "ab")
	wantGridPut(t, a, '中', 1, 0, true, "中")
	w := wantGridPut(t, g, '中', 1, 0, true, "中")
	wantGridPut(t, w, '字', 1, 0, true, "字")
	wantGridPut(t, w, 'x', 1, 0, false, "x")
	wantGridPut(t, cursorAt(gridOf(2, "中"), 0, 0), 'x', 1, 0, false, "x")
	wantGridPut(t, cursorAt(gridOf(2, "中"), 1, 0), 'x', 1, 0, true, " x")
	wantGridPut(t, cursorAt(gridOf(2, "中"), 1, 0), '字', 1, 0, true, "字")
	wantGridPut(t, cursorAt(gridOf(2, "中"), 0, 0), '字', 1, 0, true, "字")
	wantGridPut(t, wrappedIn(gridOf(2, "ab"), 0), 'x', 1, 0, false, "x")
}

func TestGridPutInTheGreatestGrids(t *testing.T) {
	for _, sides := range [][2]int{{200, 40}, {40, 200}, {2, 200}, {200, 1}} {
		g, _ := modelGridNew(sides[0], sides[1])
		for at := range g.Cells {
			g.Cells[at] = 'a' + at%26
		}
		for _, given := range []impl.Grid{g, wrappedIn(g, g.H-1), cursorAt(g, g.W-1, g.H-1), cursorAt(g, g.W-2, g.H-1), cursorAt(g, g.W/2, g.H/2)} {
			for _, r := range []int{'x', wide} {
				wantGrid(t, "GridPut", given, impl.GridPut(given, r), modelPut(given, r))
			}
		}
	}
}

// Every small grid with every cursor, and every call of it.
func TestCallsOfAllSmallGrids(t *testing.T) {
	for _, sides := range [][2]int{{2, 1}, {3, 1}, {4, 1}, {5, 1}, {2, 2}, {3, 2}, {2, 3}} {
		for _, given := range smallGrids(sides[0], sides[1]) {
			for _, r := range []int{'x', ' ', wide, 23383, 7} {
				wantGrid(t, "GridPut", given, impl.GridPut(given, r), modelPut(given, r))
			}
			for x := -1; x <= given.W; x++ {
				for y := -1; y <= given.H; y++ {
					wantGrid(t, "GridGo", given, impl.GridGo(given, x, y), modelGo(given, x, y))
				}
			}
			for from := -1; from <= len(given.Cells); from++ {
				for to := -1; to <= len(given.Cells)+1; to++ {
					wantGrid(t, "GridClear", given, impl.GridClear(given, from, to), modelClear(given, from, to))
				}
			}
			wantGrid(t, "GridScroll", given, impl.GridScroll(given), modelScroll(given))
			if !slices.Equal(impl.GridScroll(given).Cells[len(given.Cells)-given.W:], blanks(given.W)) {
				t.Errorf("behind GridScroll the last row of %s isn't blank", brief(given))
			}
		}
	}
}
