package tests

import (
	"slices"
	"testing"

	"loop.example/g00600/impl"
)

func wantWay(t *testing.T, g impl.Grid, x int, y int, want string) {
	t.Helper()
	if text, ok := modelStep(g, x, y); !ok || text != want || !modelGrid(g) {
		t.Fatalf("EmitStep(%s, %d, %d): the test itself is wrong: %q; by the model %q", brief(g), x, y, want, text)
	}
	if got, ok := impl.EmitStep(g, x, y); !ok || string(got) != want {
		t.Errorf("EmitStep(%s, %d, %d) = %q, %v; want %q", brief(g), x, y, got, ok, want)
	}
}

func wantNoWay(t *testing.T, g impl.Grid, x int, y int) {
	t.Helper()
	if got, ok := impl.EmitStep(g, x, y); ok || len(got) != 0 {
		t.Errorf("EmitStep(%s, %d, %d) = %q, %v", brief(g), x, y, got, ok)
	}
}

// emptyGrid is all blanks, with its cursor there.
func emptyGrid(t *testing.T, w int, h int, x int, y int) impl.Grid {
	t.Helper()
	g, ok := modelGridNew(w, h)
	if !ok {
		t.Fatalf("the test itself is wrong: no grid of %d and %d", w, h)
	}
	return cursorAt(g, x, y)
}

func TestEmitStepOfNone(t *testing.T) {
	for _, at := range [][2]int{{0, 0}, {1, 0}, {19, 0}, {0, 2}, {7, 1}, {19, 2}} {
		g := emptyGrid(t, 20, 3, at[0], at[1])
		wantWay(t, g, at[0], at[1], "")
	}
	wantWay(t, emptyGrid(t, 2, 1, 0, 0), 0, 0, "")
	wantWay(t, someGrid(), 2, 1, "")
}

func TestEmitStepToTheEdge(t *testing.T) {
	for _, x := range []int{1, 2, 3, 4, 5, 10, 11, 19} {
		for y := range 3 {
			wantWay(t, emptyGrid(t, 20, 3, x, y), 0, y, "\r")
		}
	}
	wantWay(t, emptyGrid(t, 2, 1, 1, 0), 0, 0, "\r")
	wantWay(t, emptyGrid(t, 200, 40, 199, 39), 0, 39, "\r")
	wantWay(t, someGrid(), 0, 1, "\r")
}

func TestEmitStepByBackspaces(t *testing.T) {
	g := emptyGrid(t, 20, 3, 9, 1)
	wantWay(t, g, 8, 1, "\b")
	wantWay(t, g, 7, 1, "\b\b")
	wantWay(t, g, 6, 1, "\b\b\b")
	wantWay(t, g, 5, 1, "\x1b[4D")
	near := emptyGrid(t, 20, 1, 4, 0)
	wantWay(t, near, 3, 0, "\b")
	wantWay(t, near, 2, 0, "\b\b")
	wantWay(t, near, 1, 0, "\b\b\b")
	wantWay(t, near, 0, 0, "\r")
	last := emptyGrid(t, 200, 40, 199, 39)
	wantWay(t, last, 198, 39, "\b")
	wantWay(t, last, 196, 39, "\b\b\b")
	wantWay(t, last, 195, 39, "\x1b[4D")
}

func TestEmitStepByColumns(t *testing.T) {
	g := emptyGrid(t, 20, 3, 9, 1)
	for n, want := range []string{"", "\x1b[1C", "\x1b[2C", "\x1b[3C", "\x1b[4C", "\x1b[5C", "\x1b[6C", "\x1b[7C", "\x1b[8C", "\x1b[9C", "\x1b[10C"} {
		wantWay(t, g, 9+n, 1, want)
	}
	for n, want := range []string{"", "\b", "\b\b", "\b\b\b", "\x1b[4D", "\x1b[5D", "\x1b[6D", "\x1b[7D", "\x1b[8D", "\r"} {
		wantWay(t, g, 9-n, 1, want)
	}
	long := emptyGrid(t, 200, 40, 0, 39)
	wantWay(t, long, 1, 39, "\x1b[1C")
	wantWay(t, long, 9, 39, "\x1b[9C")
	wantWay(t, long, 10, 39, "\x1b[10C")
	wantWay(t, long, 99, 39, "\x1b[99C")
	wantWay(t, long, 100, 39, "\x1b[100C")
	wantWay(t, long, 199, 39, "\x1b[199C")
	long = cursorAt(long, 199, 39)
	wantWay(t, long, 190, 39, "\x1b[9D")
	wantWay(t, long, 189, 39, "\x1b[10D")
	wantWay(t, long, 100, 39, "\x1b[99D")
	wantWay(t, long, 99, 39, "\x1b[100D")
	wantWay(t, long, 1, 39, "\x1b[198D")
}

func TestEmitStepToAnotherRow(t *testing.T) {
	g := emptyGrid(t, 20, 12, 9, 1)
	wantWay(t, g, 9, 2, "\x1b[3;10H")
	wantWay(t, g, 9, 0, "\x1b[1;10H")
	wantWay(t, g, 0, 0, "\x1b[1;1H")
	wantWay(t, g, 0, 2, "\x1b[3;1H")
	wantWay(t, g, 0, 8, "\x1b[9;1H")
	wantWay(t, g, 0, 9, "\x1b[10;1H")
	wantWay(t, g, 8, 2, "\x1b[3;9H")
	wantWay(t, g, 10, 11, "\x1b[12;11H")
	first := emptyGrid(t, 20, 12, 0, 0)
	wantWay(t, first, 0, 1, "\x1b[2;1H")
	wantWay(t, first, 0, 11, "\x1b[12;1H")
	high := emptyGrid(t, 40, 200, 0, 0)
	wantWay(t, high, 39, 98, "\x1b[99;40H")
	wantWay(t, high, 39, 99, "\x1b[100;40H")
	wantWay(t, high, 0, 199, "\x1b[200;1H")
	wantWay(t, emptyGrid(t, 200, 40, 99, 0), 99, 39, "\x1b[40;100H")
}

// Of two ways that are as short as each other the one that is named first.
func TestEmitStepWhereTwoAreAsShort(t *testing.T) {
	wantWay(t, emptyGrid(t, 5, 2, 1, 1), 0, 1, "\r")
	long := emptyGrid(t, 200, 12, 101, 0)
	for _, c := range [][3]int{{101, 1, 0}, {108, 8, 0}, {199, 8, 8}, {199, 1, 0}, {150, 5, 3}} {
		from, to, y := c[0], c[1], c[2]
		g := cursorAt(long, from, y)
		want := "\x1b[" + impl.NumText(from-to) + "D"
		if len(want) != len(modelGoto(to, y)) {
			t.Fatalf("the test itself is wrong: %q and %q", want, modelGoto(to, y))
		}
		wantWay(t, g, to, y, want)
	}
}

func TestEmitStepWithWrap(t *testing.T) {
	g := wrappedIn(emptyGrid(t, 20, 3, 0, 0), 1)
	wantWay(t, g, 19, 1, "\x1b[2;20H")
	wantWay(t, g, 18, 1, "\x1b[2;19H")
	wantWay(t, g, 17, 1, "\x1b[2;18H")
	wantWay(t, g, 16, 1, "\x1b[2;17H")
	wantWay(t, g, 15, 1, "\x1b[2;16H")
	wantWay(t, g, 1, 1, "\x1b[2;2H")
	wantWay(t, g, 0, 1, "\r")
	wantWay(t, g, 0, 0, "\x1b[1;1H")
	wantWay(t, g, 0, 2, "\x1b[3;1H")
	wantWay(t, g, 19, 0, "\x1b[1;20H")
	wantWay(t, g, 19, 2, "\x1b[3;20H")
	narrow := wrappedIn(gridOf(2, "中"), 0)
	wantWay(t, narrow, 0, 0, "\r")
	wantWay(t, narrow, 1, 0, "\x1b[1;2H")
	wantNoWay(t, narrow, 2, 0)
}

func TestEmitStepToNoPlace(t *testing.T) {
	for _, g := range []impl.Grid{someGrid(), wrappedIn(someGrid(), 1), cursorAt(someGrid(), 0, 0), cursorAt(someGrid(), 5, 3), emptyGrid(t, 2, 1, 0, 0), emptyGrid(t, 200, 40, 3, 3), emptyGrid(t, 40, 200, 3, 3)} {
		for x := range g.W {
			wantNoWay(t, g, x, -1)
			wantNoWay(t, g, x, g.H)
		}
		for y := range g.H {
			wantNoWay(t, g, -1, y)
			wantNoWay(t, g, g.W, y)
		}
		for _, x := range append(extremes(), g.X, -2, g.W-1, g.W, g.W+1, 200, 1<<32+g.X) {
			for _, y := range append(extremes(), g.Y, -2, g.H-1, g.H, g.H+1, 200, 1<<32+g.Y) {
				want, ok := modelStep(g, x, y)
				if ok {
					wantWay(t, g, x, y, want)
				} else {
					wantNoWay(t, g, x, y)
				}
			}
		}
	}
}

func TestEmitStepOfGridsThatAreNotRight(t *testing.T) {
	for _, g := range wrongGrids() {
		for _, x := range append(extremes(), g.X, 2, g.W-1, g.W) {
			for _, y := range append(extremes(), g.Y, 2, g.H-1, g.H) {
				wantNoWay(t, g, x, y)
			}
		}
	}
	for _, sides := range hugeSides() {
		wantNoWay(t, impl.Grid{W: sides[0], H: sides[1]}, 0, 0)
		wantNoWay(t, impl.Grid{W: sides[0], H: sides[1], Cells: blanks(16), X: 1, Y: 1}, 3, 1)
	}
}

// What stands in the cells doesn't count.
func TestEmitStepOverRunes(t *testing.T) {
	for _, g := range smallGrids(3, 2) {
		for y := range 2 {
			for x := range 3 {
				want, _ := modelStep(g, x, y)
				wantWay(t, g, x, y, want)
			}
		}
	}
	g := cursorAt(gridOf(8, "中中中中"), 7, 0)
	for x, want := range []string{"\r", "\x1b[6D", "\x1b[5D", "\x1b[4D", "\b\b\b", "\b\b", "\b", ""} {
		wantWay(t, g, x, 0, want)
	}
}

// withAllCursors are g with its cursor in each of the places, in the last column with Wrap too.
func withAllCursors(g impl.Grid, places [][2]int) []impl.Grid {
	var out []impl.Grid
	for _, at := range places {
		out = append(out, cursorAt(g, at[0], at[1]))
		if at[0] == g.W-1 {
			out = append(out, wrappedIn(g, at[1]))
		}
	}
	return out
}

func allPlaces(g impl.Grid) [][2]int {
	var out [][2]int
	for y := range g.H {
		for x := range g.W {
			out = append(out, [2]int{x, y})
		}
	}
	return out
}

// placesAtEdges are about the ends of the sides, and where the texts of the numbers grow by a digit.
func placesAtEdges(g impl.Grid) [][2]int {
	columns := []int{0, 1, 2, 8, 9, 10, 11, 98, 99, 100, 101, 110, g.W - 1}
	rows := []int{0, 8, 9, 98, 99, g.H - 1}
	var out [][2]int
	for _, at := range allPlaces(g) {
		if slices.Contains(columns, at[0]) && slices.Contains(rows, at[1]) {
			out = append(out, at)
		}
	}
	return out
}

// wantAllSteps asks for each way from each of the cursors to each of the places.
func wantAllSteps(t *testing.T, cursors []impl.Grid, places [][2]int) {
	t.Helper()
	for _, g := range cursors {
		for _, to := range places {
			want, wantOk := modelStep(g, to[0], to[1])
			if got, ok := impl.EmitStep(g, to[0], to[1]); ok != wantOk || string(got) != want {
				t.Fatalf("EmitStep(%s, %d, %d) = %q, %v; want %q, %v", brief(g), to[0], to[1], got, ok, want, wantOk)
			}
		}
	}
}

// beyond are the places one beyond each side.
func beyond(g impl.Grid) [][2]int {
	var out [][2]int
	for x := -1; x <= g.W; x++ {
		out = append(out, [2]int{x, -1}, [2]int{x, g.H})
	}
	for y := range g.H {
		out = append(out, [2]int{-1, y}, [2]int{g.W, y})
	}
	return out
}

func TestEmitStepFromEveryPlaceToEveryPlace(t *testing.T) {
	for w := 2; w <= 6; w++ {
		for h := 1; h <= 4; h++ {
			g := emptyGrid(t, w, h, 0, 0)
			wantAllSteps(t, withAllCursors(g, allPlaces(g)), append(allPlaces(g), beyond(g)...))
		}
	}
	for _, sides := range [][2]int{{10, 2}, {11, 2}, {10, 11}, {12, 12}, {100, 1}, {101, 2}, {200, 1}, {2, 10}, {2, 11}, {2, 100}, {2, 101}, {2, 200}} {
		g := emptyGrid(t, sides[0], sides[1], 0, 0)
		wantAllSteps(t, withAllCursors(g, allPlaces(g)), append(allPlaces(g), beyond(g)...))
	}
}

func TestEmitStepOnGreatGrids(t *testing.T) {
	for _, sides := range [][2]int{{100, 11}, {101, 12}, {11, 100}, {12, 101}, {200, 40}, {40, 200}} {
		g := emptyGrid(t, sides[0], sides[1], 0, 0)
		places := placesAtEdges(g)
		wantAllSteps(t, withAllCursors(g, places), places)
		wantAllSteps(t, []impl.Grid{cursorAt(g, 1, 8), wrappedIn(g, 8)}, beyond(g))
	}
}
