package tests

import (
	"testing"

	"loop.example/g00600/impl"
)

// gridStep is one change of a grid, and the same by the model.
type gridStep struct {
	what string
	got  func(g impl.Grid) impl.Grid
	want func(g impl.Grid) impl.Grid
}

func stepPut(r int) gridStep {
	return gridStep{"GridPut", func(g impl.Grid) impl.Grid { return impl.GridPut(g, r) }, func(g impl.Grid) impl.Grid { return modelPut(g, r) }}
}

func stepGo(x int, y int) gridStep {
	return gridStep{"GridGo", func(g impl.Grid) impl.Grid { return impl.GridGo(g, x, y) }, func(g impl.Grid) impl.Grid { return modelGo(g, x, y) }}
}

func stepClear(from int, to int) gridStep {
	return gridStep{"GridClear", func(g impl.Grid) impl.Grid { return impl.GridClear(g, from, to) }, func(g impl.Grid) impl.Grid { return modelClear(g, from, to) }}
}

func stepScroll() gridStep {
	return gridStep{"GridScroll", impl.GridScroll, modelScroll}
}

// rolledRune is of each width, and at times at an end of a range, or no rune.
func rolledRune(by *dice) int {
	switch by.roll(12) {
	case 0:
		return 32
	case 1:
		return pick(by, runeEdges())
	case 2:
		return pick(by, farInts())
	case 3:
		ends := pick(by, wideRanges())
		return ends[by.roll(2)] + by.roll(3) - 1
	case 4, 5, 6, 7:
		return wide + by.roll(3000)
	}
	return 33 + by.roll(94)
}

// rolledPlace is within the length, about its ends, or far.
func rolledPlace(by *dice, length int) int {
	if by.roll(12) == 0 {
		return pick(by, extremes())
	}
	return by.roll(length+4) - 2
}

func rolledGridStep(by *dice, g impl.Grid) gridStep {
	n := len(g.Cells)
	switch by.roll(20) {
	case 0:
		return stepScroll()
	case 1, 2:
		return stepClear(rolledPlace(by, n), rolledPlace(by, n))
	case 3, 4:
		from := by.roll(n)
		return stepClear(from, from+1+by.roll(3))
	case 5, 6, 7, 8:
		return stepGo(rolledPlace(by, g.W), rolledPlace(by, g.H))
	}
	return stepPut(rolledRune(by))
}

// seePut counts what a rune met, told ahead of it.
func seePut(met map[string]int, before impl.Grid, after impl.Grid) {
	if sameGrid(before, after) {
		return
	}
	if before.Wrap {
		met["Wrap ahead"]++
	}
	if after.Wrap {
		met["Wrap behind"]++
	}
	if !before.Wrap && after.X < before.X {
		met["a wide rune in the last column"]++
	}
	if after.Y == before.Y && after.X <= before.X && !after.Wrap {
		met["scrolled"]++
	}
	switch modelCell(before, before.X, before.Y) {
	case impl.Half:
		met["over the right half"]++
	default:
		if modelWidth(modelCell(before, before.X, before.Y)) == 2 {
			met["over the left half"]++
		}
	}
}

// wantAllRight asks for what holds of every grid that calls have made.
func wantAllRight(t *testing.T, what string, before impl.Grid, after impl.Grid) {
	t.Helper()
	if !impl.GridOk(after) || !modelGrid(after) {
		t.Fatalf("behind %s of %s the grid isn't right: %s", what, brief(before), brief(after))
	}
	if after.W != before.W || after.H != before.H {
		t.Fatalf("behind %s of %s the grid has other sides: %s", what, brief(before), brief(after))
	}
	halves := 0
	for y := range after.H {
		for x := range after.W {
			switch c := modelCell(after, x, y); {
			case c == impl.Half:
				halves--
			case modelWidth(c) == 2:
				halves++
			}
			if halves < 0 || halves > 1 {
				t.Fatalf("behind %s of %s half a rune stands alone in column %d of row %d of %s", what, brief(before), x, y, brief(after))
			}
		}
		if halves != 0 {
			t.Fatalf("behind %s of %s half a rune stands alone in row %d of %s", what, brief(before), y, brief(after))
		}
	}
}

func wantRightAlways(t *testing.T, w int, h int, steps int, by *dice, met map[string]int) {
	t.Helper()
	now, ok := impl.GridNew(w, h)
	if !ok {
		t.Fatalf("GridNew(%d, %d) is false", w, h)
	}
	for range steps {
		s := rolledGridStep(by, now)
		next := s.got(now)
		wantAllRight(t, s.what, now, next)
		if want := s.want(now); !impl.SameGrid(next, want) || !sameGrid(next, want) {
			t.Fatalf("%s of %s\nis %s\nwant %s", s.what, brief(now), brief(next), brief(want))
		}
		met[s.what]++
		if s.what == "GridPut" {
			seePut(met, now, next)
		}
		now = next
	}
}

func TestP10AGridStaysRight(t *testing.T) {
	by := dice(86028121)
	met := map[string]int{}
	for w := 2; w <= 9; w++ {
		for h := 1; h <= 5; h++ {
			wantRightAlways(t, w, h, 4000, &by, met)
		}
	}
	for _, sides := range [][2]int{{200, 1}, {2, 200}, {20, 10}, {80, 24}} {
		wantRightAlways(t, sides[0], sides[1], 300, &by, met)
	}
	for _, sides := range [][2]int{{200, 40}, {40, 200}} {
		wantRightAlways(t, sides[0], sides[1], 40, &by, met)
	}
	wantMet(t, met, 500, "GridPut", "GridGo", "GridScroll", "GridClear", "Wrap ahead", "Wrap behind", "a wide rune in the last column", "scrolled", "over the right half", "over the left half")
}

// A long text, put rune by rune, fills the grid row by row and scrolls; nothing is lost but what went out at the top.
func TestP10OfALongText(t *testing.T) {
	by := dice(15485863)
	for _, sides := range [][2]int{{2, 1}, {2, 3}, {3, 2}, {5, 4}, {16, 3}} {
		w, h := sides[0], sides[1]
		g, _ := impl.GridNew(w, h)
		rows := []string{""}
		used := 0
		for range 400 {
			r := 33 + by.roll(94)
			if by.roll(3) == 0 {
				r = wide + by.roll(3000)
			}
			if used+modelWidth(r) > w {
				rows, used = append(rows, ""), 0
			}
			rows[len(rows)-1] += string(bytesOfRune(r))
			used += modelWidth(r)
			before := g
			g = impl.GridPut(g, r)
			wantAllRight(t, "GridPut", before, g)
			wantRows(t, g, rows[max(len(rows)-h, 0):])
		}
	}
}

// wantRows asks for the texts of the rows, and for blanks below them.
func wantRows(t *testing.T, g impl.Grid, rows []string) {
	t.Helper()
	for y := range g.H {
		want := ""
		if y < len(rows) {
			want = rows[y]
		}
		if got := impl.GridRow(g, y); got != want {
			t.Fatalf("row %d is %q; want %q", y, got, want)
		}
	}
	if g.Y != len(rows)-1 {
		t.Fatalf("the cursor is in row %d behind %q", g.Y, rows)
	}
}

// Every row of four steps of a few, from a small grid.
func TestP10OfAllShortRows(t *testing.T) {
	steps := []gridStep{stepPut('a'), stepPut(wide), stepPut(7), stepGo(0, 0), stepGo(1, 0), stepGo(9, 9), stepScroll(), stepClear(1, 2), stepClear(3, 4)}
	for _, sides := range [][2]int{{2, 1}, {3, 1}, {3, 2}} {
		g, _ := impl.GridNew(sides[0], sides[1])
		wantRightBehind(t, g, steps, 4)
	}
}

func wantRightBehind(t *testing.T, now impl.Grid, steps []gridStep, most int) {
	t.Helper()
	if most == 0 {
		return
	}
	for _, s := range steps {
		next := s.got(now)
		wantAllRight(t, s.what, now, next)
		if want := s.want(now); !sameGrid(next, want) {
			t.Fatalf("%s of %s\nis %s\nwant %s", s.what, brief(now), brief(next), brief(want))
		}
		wantRightBehind(t, next, steps, most-1)
	}
}
