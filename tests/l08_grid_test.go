package tests

import (
	"slices"
	"strconv"
	"testing"

	"loop.example/g00600/impl"
)

func TestConstantsOfGrids(t *testing.T) {
	if impl.MaxSide != 200 || impl.MaxCells != 8000 || impl.Half != -1 {
		t.Error("the constants of chapter 9 are others")
	}
}

const wide = 20013 // "中"

// gridOf is a grid of that width with those rows, a Half behind each rune of width 2, and blanks behind all; its cursor is in column 0 of row 0.
func gridOf(w int, rows ...string) impl.Grid {
	g := impl.Grid{W: w, H: len(rows)}
	for _, text := range rows {
		var row []int
		for _, r := range text {
			row = append(row, int(r))
			if modelWidth(int(r)) == 2 {
				row = append(row, impl.Half)
			}
		}
		for len(row) < w {
			row = append(row, ' ')
		}
		if len(row) > w {
			panic("the test itself is wrong: no place for " + text)
		}
		g.Cells = append(g.Cells, row...)
	}
	return g
}

func cursorAt(g impl.Grid, x int, y int) impl.Grid {
	g.X, g.Y = x, y
	return g
}

// wrappedIn has the cursor in the last column of that row, and the next rune begins a new one.
func wrappedIn(g impl.Grid, y int) impl.Grid {
	g.X, g.Y, g.Wrap = g.W-1, y, true
	return g
}

// someGrid has runes of both widths, blanks within and at the ends, a row of blanks, and a wide rune at either end of a row.
func someGrid() impl.Grid {
	return cursorAt(gridOf(6, "a中 b", "中cd中", "", " e 字f"), 2, 1)
}

// wrongGrids are not right, each by one change of someGrid.
func wrongGrids() []impl.Grid {
	changes := []func(g *impl.Grid){
		func(g *impl.Grid) { *g = impl.Grid{} },
		func(g *impl.Grid) { g.W = 1 },
		func(g *impl.Grid) { g.W, g.H = 2, 12; g.X = 1 },
		func(g *impl.Grid) { g.H = 3 },
		func(g *impl.Grid) { g.H = 5 },
		func(g *impl.Grid) { g.Cells = nil },
		func(g *impl.Grid) { g.Cells = g.Cells[:23] },
		func(g *impl.Grid) { g.Cells = append(g.Cells, 32) },
		func(g *impl.Grid) { g.Cells[0] = 0 },
		func(g *impl.Grid) { g.Cells[23] = impl.Half },
		func(g *impl.Grid) { g.Cells[2] = 'x' },
		func(g *impl.Grid) { g.Cells[6] = 'x' },
		func(g *impl.Grid) { g.X = -1 },
		func(g *impl.Grid) { g.X = 6 },
		func(g *impl.Grid) { g.Y = -1 },
		func(g *impl.Grid) { g.Y = 4 },
		func(g *impl.Grid) { g.Wrap = true },
	}
	var out []impl.Grid
	for _, change := range changes {
		g := someGrid()
		change(&g)
		out = append(out, g)
	}
	return out
}

// smallRows are all right rows of that width of 'a', the blank and a rune of width 2.
func smallRows(w int) []string {
	if w == 0 {
		return []string{""}
	}
	var out []string
	for _, row := range smallRows(w - 1) {
		out = append(out, row+"a", row+" ")
	}
	if w > 1 {
		for _, row := range smallRows(w - 2) {
			out = append(out, row+"中")
		}
	}
	return out
}

// smallGrids are all right grids of those sides and rows, with every cursor.
func smallGrids(w int, h int) []impl.Grid {
	bare := []impl.Grid{{W: w}}
	for range h {
		var more []impl.Grid
		for _, g := range bare {
			for _, row := range smallRows(w) {
				more = append(more, impl.Grid{W: w, H: g.H + 1, Cells: slices.Concat(g.Cells, gridOf(w, row).Cells)})
			}
		}
		bare = more
	}
	var out []impl.Grid
	for _, g := range bare {
		for y := range h {
			out = append(out, wrappedIn(cloneGrid(g), y))
			for x := range w {
				out = append(out, cursorAt(cloneGrid(g), x, y))
			}
		}
	}
	return out
}

func wantGridOk(t *testing.T, what string, g impl.Grid, want bool) {
	t.Helper()
	if modelGrid(g) != want {
		t.Fatalf("%s: the test itself is wrong: %s", what, brief(g))
	}
	if impl.GridOk(g) != want {
		t.Errorf("%s: GridOk is %v of %s", what, !want, brief(g))
	}
}

// wantCells asks of a grid of those cells, with its cursor in column 0 of row 0.
func wantCells(t *testing.T, what string, want bool, w int, cells ...int) {
	t.Helper()
	wantGridOk(t, what, impl.Grid{W: w, H: len(cells) / w, Cells: cells}, want)
}

// blanks are so many cells.
func blanks(n int) []int {
	return slices.Repeat([]int{32}, n)
}

func TestGridOkOfSides(t *testing.T) {
	sides := []int{-2, -1, 0, 1, 2, 3, 39, 40, 41, 89, 90, 199, 200, 201, 202}
	for _, w := range sides {
		for _, h := range sides {
			right := w >= 2 && w <= 200 && h >= 1 && h <= 200 && w*h <= 8000
			what := strconv.Itoa(w) + " columns and " + strconv.Itoa(h) + " rows"
			wantGridOk(t, what, impl.Grid{W: w, H: h, Cells: blanks(max(w*h, 0))}, right)
		}
	}
	for _, long := range []int{201, 400, 4000, 8000} {
		wantGridOk(t, "a long row", impl.Grid{W: long, H: 1, Cells: blanks(long)}, false)
		wantGridOk(t, "a long column", impl.Grid{W: 2, H: long, Cells: blanks(2 * long)}, false)
	}
	wantGridOk(t, "no sides", impl.Grid{}, false)
}

func TestGridOkOfTheNumberOfCells(t *testing.T) {
	for _, sides := range [][2]int{{2, 1}, {2, 2}, {3, 5}, {200, 40}, {40, 200}} {
		w, h := sides[0], sides[1]
		for _, n := range []int{0, 1, w - 1, w, w*h - w, w*h - 2, w*h - 1, w * h, w*h + 1, w*h + 2, w*h + w, 2 * w * h} {
			wantGridOk(t, strconv.Itoa(n)+" cells", impl.Grid{W: w, H: h, Cells: blanks(n)}, n == w*h)
		}
	}
}

// hugeSides have a product that wraps round to a number of cells that could be there.
func hugeSides() [][2]int {
	const top = int(^uint(0) >> 1)
	return [][2]int{
		{1 << 32, 1 << 32}, {1<<32 + 2, 1 << 32}, {1 << 62, 4}, {4, 1 << 62}, {1<<61 + 2, 8}, {8, 1<<61 + 1}, {1 << 61, 200}, {200, 1 << 61},
		{1<<62 + 50, 4}, {2, 1<<62 + 7}, {-top - 1, 2}, {2, -top - 1}, {-top - 1, -top - 1}, {-2, -4}, {-1, -8}, {top, top}, {-top, -top}, {top, 2}, {2, top},
	}
}

func TestSidesWhoseProductOverflows(t *testing.T) {
	for _, sides := range hugeSides() {
		w, h := sides[0], sides[1]
		if n := w * h; n >= 0 && n <= 8000 {
			wantGridOk(t, "sides that wrap round", impl.Grid{W: w, H: h, Cells: blanks(n)}, false)
		}
		wantGridOk(t, "huge sides without cells", impl.Grid{W: w, H: h}, false)
		wantGridOk(t, "huge sides with some cells", impl.Grid{W: w, H: h, Cells: blanks(16)}, false)
		if g, ok := impl.GridNew(w, h); ok || !sameGrid(g, impl.Grid{}) {
			t.Errorf("GridNew(%d, %d) = %s, %v", w, h, brief(g), ok)
		}
	}
}

func TestGridOkOfCellsOfWidthOne(t *testing.T) {
	for _, r := range []int{32, 33, 'a', 126, 160, 161, 233, 769, 4351, 4448, 55295, 57344, 65533, 262142, impl.MaxRune} {
		for at := range 6 {
			cells := blanks(6)
			cells[at] = r
			wantCells(t, "a rune of width 1", true, 3, cells...)
		}
	}
}

func TestGridOkOfCellsWithoutWidth(t *testing.T) {
	none := append(farInts(), 0, 1, 9, 10, 27, 31, 127, 128, 159, 55296, 56000, 57343, impl.MaxRune+1)
	for _, r := range none {
		if r == impl.Half {
			continue
		}
		for at := range 6 {
			cells := blanks(6)
			cells[at] = r
			wantCells(t, "a cell without width", false, 3, cells...)
			if at%3 < 2 {
				cells[at+1] = impl.Half
				wantCells(t, "a cell without width and Half", false, 3, cells...)
			}
		}
	}
}

func TestGridOkOfWideRunes(t *testing.T) {
	for _, ends := range wideRanges() {
		for _, r := range ends {
			for at := range 8 {
				cells := blanks(8)
				cells[at] = r
				wantCells(t, "a rune of width 2 without Half", false, 4, cells...)
				if at < 7 {
					cells[at+1] = impl.Half
					wantCells(t, "a rune of width 2 and Half", at != 3, 4, cells...)
				}
			}
		}
	}
}

func TestGridOkOfHalves(t *testing.T) {
	const a, half = 'a', impl.Half
	wantCells(t, "two halves", true, 2, wide, half)
	wantCells(t, "two wide runes", true, 4, wide, half, wide, half)
	wantCells(t, "a wide rune at the end", true, 3, a, wide, half)
	wantCells(t, "a wide rune in each row", true, 3, a, wide, half, wide, half, a)
	wantCells(t, "a wide rune in the last column", false, 3, a, a, wide)
	wantCells(t, "a wide rune in the last column, Half in the next row", false, 2, a, wide, half, a)
	wantCells(t, "a wide rune in the last column, blanks in the next row", false, 2, a, wide, 32, 32)
	wantCells(t, "a wide rune ahead of a letter", false, 3, wide, a, a)
	wantCells(t, "a wide rune ahead of a blank", false, 3, wide, 32, a)
	wantCells(t, "a wide rune ahead of another", false, 3, wide, wide, half)
	wantCells(t, "Half in column 0", false, 3, half, a, a)
	wantCells(t, "Half in column 0 of the next row", false, 2, a, a, half, a)
	wantCells(t, "Half in column 0 behind a wide rune", false, 3, a, wide, half, half, a, a)
	wantCells(t, "Half behind a letter", false, 3, a, half, a)
	wantCells(t, "Half behind a blank", false, 3, a, 32, half)
	wantCells(t, "Half behind Half", false, 3, wide, half, half)
	wantCells(t, "Half behind Half, and a wide rune", false, 5, wide, half, half, wide, half)
	wantCells(t, "nothing but Half", false, 2, half, half)
	wantCells(t, "Half ahead of its rune", false, 2, half, wide)
}

// Every list of six cells, as rows of each width.
func TestGridOkOfAllSmallCells(t *testing.T) {
	signs := []int{32, 'a', wide, impl.Half, 0}
	right := 0
	for n := range 5 * 5 * 5 * 5 * 5 * 5 {
		var cells []int
		for range 6 {
			cells = append(cells, signs[n%5])
			n /= 5
		}
		for _, w := range []int{2, 3, 6} {
			g := impl.Grid{W: w, H: 6 / w, Cells: cells}
			if impl.GridOk(g) != modelGrid(g) {
				t.Fatalf("GridOk is %v of %s", impl.GridOk(g), brief(g))
			}
			if impl.GridOk(g) {
				right++
			}
		}
	}
	// 5 rows of width 2, 12 of width 3 and 169 of width 6.
	if right != 5*5*5+12*12+169 {
		t.Errorf("%d of the small grids are right", right)
	}
}

func TestGridOkOfTheCursor(t *testing.T) {
	for _, sides := range [][2]int{{2, 1}, {2, 3}, {6, 4}, {200, 40}} {
		g, _ := modelGridNew(sides[0], sides[1])
		places := append(extremes(), g.W-2, g.W-1, g.W, g.W+1, g.H-1, g.H, g.H+1)
		for _, x := range places {
			for _, y := range places {
				within := 0 <= x && x < g.W && 0 <= y && y < g.H
				at := cursorAt(g, x, y)
				wantGridOk(t, "a cursor", at, within)
				at.Wrap = true
				wantGridOk(t, "a cursor with Wrap", at, within && x == g.W-1)
			}
		}
	}
	wantGridOk(t, "a cursor on a Half", cursorAt(someGrid(), 1, 1), true)
	wantGridOk(t, "a cursor with Wrap behind a wide rune", wrappedIn(someGrid(), 1), true)
}

func TestGridOkOfSomeGrids(t *testing.T) {
	wantGridOk(t, "some grid", someGrid(), true)
	for _, g := range wrongGrids() {
		wantGridOk(t, "a wrong grid", g, false)
	}
	for _, g := range smallGrids(4, 2) {
		wantGridOk(t, "a small grid", g, true)
	}
}

func TestGridNew(t *testing.T) {
	for _, sides := range [][2]int{{2, 1}, {3, 1}, {2, 200}, {200, 1}, {200, 40}, {40, 200}, {80, 24}, {89, 89}} {
		g, ok := impl.GridNew(sides[0], sides[1])
		want := impl.Grid{W: sides[0], H: sides[1], Cells: blanks(sides[0] * sides[1])}
		if !ok || !sameGrid(g, want) || !impl.GridOk(g) {
			t.Errorf("GridNew(%d, %d) = %s, %v", sides[0], sides[1], brief(g), ok)
		}
	}
	for w := -2; w < 210; w++ {
		for h := -2; h < 210; h++ {
			g, ok := impl.GridNew(w, h)
			if ok != modelSides(w, h) || !ok && !sameGrid(g, impl.Grid{}) || ok && len(g.Cells) != w*h {
				t.Fatalf("GridNew(%d, %d) = %s, %v", w, h, brief(g), ok)
			}
		}
	}
	for _, far := range extremes() {
		for _, near := range append(extremes(), 2, 40, 200) {
			for _, sides := range [][2]int{{far, near}, {near, far}} {
				want, wantOk := modelGridNew(sides[0], sides[1])
				if g, ok := impl.GridNew(sides[0], sides[1]); ok != wantOk || !sameGrid(g, want) {
					t.Errorf("GridNew(%d, %d) = %s, %v", sides[0], sides[1], brief(g), ok)
				}
			}
		}
	}
}

func TestGridAt(t *testing.T) {
	g := someGrid()
	known := map[[2]int]int{
		{0, 0}: 'a', {1, 0}: wide, {2, 0}: impl.Half, {3, 0}: ' ', {4, 0}: 'b', {5, 0}: ' ',
		{0, 1}: wide, {1, 1}: impl.Half, {5, 1}: impl.Half, {0, 2}: ' ', {0, 3}: ' ', {1, 3}: 'e', {3, 3}: 23383, {5, 3}: 'f',
		{-1, 0}: 0, {6, 0}: 0, {-1, 1}: 0, {6, 2}: 0, {0, -1}: 0, {5, -1}: 0, {0, 4}: 0, {5, 4}: 0, {6, 4}: 0, {-1, -1}: 0, {6, -1}: 0, {-1, 4}: 0, {-6, 1}: 0, {24, 0}: 0,
	}
	for place, want := range known {
		if got := impl.GridAt(g, place[0], place[1]); got != want {
			t.Errorf("GridAt in column %d of row %d is %d; want %d", place[0], place[1], got, want)
		}
	}
	for _, g := range append(wrongGrids(), someGrid(), wrappedIn(gridOf(2, "中"), 0), gridOf(3, "abc", "de", "中f")) {
		for _, x := range append(extremes(), 2, 3, 4, 5, 6, 7) {
			for _, y := range append(extremes(), 2, 3, 4, 5, 6, 7) {
				if got := impl.GridAt(g, x, y); got != modelAt(g, x, y) {
					t.Errorf("GridAt in column %d of row %d of %s is %d", x, y, brief(g), got)
				}
			}
		}
	}
}

func TestGridAtOfAGridThatIsNotRight(t *testing.T) {
	for _, g := range wrongGrids() {
		for x := -1; x < 7; x++ {
			for y := -1; y < 6; y++ {
				if got := impl.GridAt(g, x, y); got != 0 {
					t.Errorf("GridAt in column %d of row %d of %s is %d", x, y, brief(g), got)
				}
			}
		}
	}
}

func TestGridRow(t *testing.T) {
	rows := map[string]string{
		"": "", "      ": "", "a": "a", "     a": "     a", " a  b ": " a  b", "a中 b": "a中 b", "中": "中", "  中": "  中", "    中": "    中", "中字中": "中字中",
		"ab  中": "ab  中", "abcdef": "abcdef", "a\u00a0": "a\u00a0", "a\u3000": "a\u3000", "\u3000\u3000 ": "\u3000\u3000", "\u2003 ": "\u2003", "é\u0301": "é\u0301", "~😀": "~😀", "\U0010ffff": "\U0010ffff", "\U0003fffd ": "\U0003fffd",
	}
	for text, want := range rows {
		g := gridOf(6, "first", text, "last")
		if got := []string{impl.GridRow(g, 0), impl.GridRow(g, 1), impl.GridRow(g, 2)}; !slices.Equal(got, []string{"first", want, "last"}) {
			t.Errorf("the rows of %s are %q; want %q in the midst", brief(g), got, want)
		}
		for _, y := range append(extremes(), -1, 3, 4, 18) {
			if y == 0 || y == 1 {
				continue
			}
			if got := impl.GridRow(g, y); got != "" {
				t.Errorf("row %d is %q", y, got)
			}
		}
	}
	for _, g := range wrongGrids() {
		for y := -1; y < 6; y++ {
			if got := impl.GridRow(g, y); got != "" {
				t.Errorf("row %d of %s is %q", y, brief(g), got)
			}
		}
	}
	for _, g := range slices.Concat(smallGrids(2, 1), smallGrids(3, 2), smallGrids(5, 1)) {
		for y := range g.H {
			if got := impl.GridRow(g, y); got != modelRow(g, y) {
				t.Errorf("row %d of %s is %q", y, brief(g), got)
			}
		}
	}
}

func wantSameGrid(t *testing.T, what string, a impl.Grid, b impl.Grid, want bool) {
	t.Helper()
	if impl.SameGrid(a, b) != want || impl.SameGrid(b, a) != want {
		t.Errorf("%s: SameGrid is %v of %s\nand %s", what, !want, brief(a), brief(b))
	}
}

func TestSameGrid(t *testing.T) {
	for _, g := range append(wrongGrids(), someGrid(), wrappedIn(gridOf(2, "中"), 0)) {
		wantSameGrid(t, "a copy", g, cloneGrid(g), true)
		for _, n := range []int{-1, 1, 1 << 32, 1 << 62} {
			other := g
			other.W += n
			wantSameGrid(t, "another W", g, other, false)
			other = g
			other.H += n
			wantSameGrid(t, "another H", g, other, false)
			other = g
			other.X += n
			wantSameGrid(t, "another X", g, other, false)
			other = g
			other.Y += n
			wantSameGrid(t, "another Y", g, other, false)
		}
		other := g
		other.Wrap = !g.Wrap
		wantSameGrid(t, "another Wrap", g, other, false)
		other.Cells = append(slices.Clone(g.Cells), 32)
		other.Wrap = g.Wrap
		wantSameGrid(t, "one cell more", g, other, false)
		for i := range g.Cells {
			other := cloneGrid(g)
			other.Cells[i]++
			wantSameGrid(t, "another cell", g, other, false)
		}
	}
	turned := someGrid()
	turned.W, turned.H = turned.H, turned.W
	wantSameGrid(t, "W and H changed over", someGrid(), turned, false)
	wantSameGrid(t, "X and Y changed over", someGrid(), cursorAt(someGrid(), 1, 2), false)
	wantSameGrid(t, "a blank and none", impl.Grid{Cells: []int{32}}, impl.Grid{}, false)
	wantSameGrid(t, "no cells and nil", impl.Grid{W: 3, H: 2, X: 1, Y: 1, Cells: []int{}}, impl.Grid{W: 3, H: 2, X: 1, Y: 1}, true)
	wantSameGrid(t, "nothing", impl.Grid{}, impl.Grid{}, true)
}
