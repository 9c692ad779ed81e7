package tests

import (
	"testing"

	"loop.example/g00600/impl"
)

// P7, as far as it speaks of what chapter 11 sends: a screen that is mended cell by cell.

// mended goes to each cell that differs and sends its rune, then to the cursor of b; it tells the bytes, and how many cells of a differed.
func mended(t *testing.T, a impl.Grid, b impl.Grid) ([]byte, int) {
	t.Helper()
	var sent []byte
	now, differ := a, 0
	for at, c := range b.Cells {
		if a.Cells[at] != c {
			differ++
		}
		if now.Cells[at] == c || c == impl.Half {
			continue
		}
		x, y := at%b.W, at/b.W
		step, ok := impl.EmitStep(now, x, y)
		if !ok {
			t.Fatalf("EmitStep(%s, %d, %d) is false", brief(now), x, y)
		}
		sent = append(append(sent, step...), impl.EmitRunes([]int{c})...)
		now = impl.GridPut(impl.GridGo(now, x, y), c)
	}
	step, ok := impl.EmitStep(now, b.X, b.Y)
	if !ok {
		t.Fatalf("EmitStep(%s, %d, %d) is false", brief(now), b.X, b.Y)
	}
	return append(sent, step...), differ
}

func wantMended(t *testing.T, a impl.Grid, b impl.Grid) {
	t.Helper()
	sent, differ := mended(t, a, b)
	wantVt(t, "a screen that is mended", vtOf(a), impl.VtFeed(vtOf(a), sent), vtOf(b))
	if len(sent) > 10+14*differ {
		t.Errorf("to mend %d cells of %s %d bytes are sent: %q", differ, brief(a), len(sent), sent)
	}
	if impl.SameGrid(a, b) && len(sent) > 0 {
		t.Errorf("where nothing differs %q is sent", sent)
	}
}

func TestP7AScreenIsMended(t *testing.T) {
	by := dice(39916801)
	for range 1500 {
		w, h := 2+by.roll(14), 1+by.roll(4)
		a, b := rolledGrid(&by, w, h), rolledGrid(&by, w, h)
		b.Wrap = false
		wantMended(t, a, b)
		wantMended(t, b, b)
	}
	for _, sides := range [][2]int{{200, 2}, {2, 200}, {120, 12}} {
		for range 10 {
			a, b := rolledGrid(&by, sides[0], sides[1]), rolledGrid(&by, sides[0], sides[1])
			b.Wrap = false
			wantMended(t, a, b)
		}
	}
}

func TestP7OfAllSmallScreens(t *testing.T) {
	for _, all := range [][]impl.Grid{smallGrids(3, 1), smallGrids(2, 2)} {
		for _, a := range all {
			for _, b := range all {
				if !b.Wrap {
					wantMended(t, a, b)
				}
			}
		}
	}
}

// A step is at most 10 bytes, and a rune at most 4.
func TestP7TheDearestCell(t *testing.T) {
	dearest := 0
	for x := range impl.MaxSide {
		for y := range impl.MaxSide {
			dearest = max(dearest, len(impl.EmitGoto(x, y)))
		}
	}
	if dearest != 10 {
		t.Errorf("the longest way has %d bytes", dearest)
	}
	dearest = 0
	for r := range impl.MaxRune + 1 {
		dearest = max(dearest, len(impl.EmitRunes([]int{r})))
	}
	if dearest != 4 {
		t.Errorf("the longest rune has %d bytes", dearest)
	}
}

func TestP7ClearTextAndTailText(t *testing.T) {
	by := dice(479001599)
	grids := append(withAllCursors(someGrid(), allPlaces(someGrid())), gridOf(2, "中"), cursorAt(gridOf(2, "中"), 1, 0), wrappedIn(gridOf(2, "中"), 0))
	for range 100 {
		grids = append(grids, rolledGrid(&by, 2+by.roll(9), 1+by.roll(4)))
	}
	for _, g := range grids {
		blankGrid, _ := modelGridNew(g.W, g.H)
		wantVt(t, "ClearText", vtOf(g), impl.VtFeed(vtOf(g), []byte(impl.ClearText)), vtOf(blankGrid))
		tail := modelClear(g, g.Y*g.W+g.X, (g.Y+1)*g.W)
		wantVt(t, "TailText", vtOf(g), impl.VtFeed(vtOf(g), []byte(impl.TailText)), vtOf(tail))
	}
}

// Sequences cost nothing, all else a byte each.
func TestP7WhatIsSentAndItsCost(t *testing.T) {
	for _, g := range withAllCursors(gridOf(12, "abc", "中"), allPlaces(gridOf(12, "", ""))) {
		for _, to := range allPlaces(g) {
			b, _ := impl.EmitStep(g, to[0], to[1])
			want := len(b)
			if want > 3 {
				want = 0
			}
			if got := impl.EmitCost(b); got != want {
				t.Errorf("EmitCost of the step %q is %d", b, got)
			}
		}
	}
	for _, l := range [][]int{{}, {'a'}, {'a', 233, wide, 128512}, {'[', 27, '1', 'H'}, {27}} {
		if b := impl.EmitRunes(l); impl.EmitCost(b) != len(b) {
			t.Errorf("EmitCost of the runes %q is %d", b, impl.EmitCost(b))
		}
	}
	for x := range impl.MaxSide {
		if impl.EmitCost(impl.EmitGoto(x, 199-x)) != 0 {
			t.Errorf("the way to column %d has a cost", x)
		}
	}
}
