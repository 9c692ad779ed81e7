package tests

import (
	"slices"
	"testing"

	"loop.example/g00600/impl"
)

// gridCall is a call of a function of chapter 9 that answers a grid.
type gridCall struct {
	what string
	call func(g impl.Grid) impl.Grid
}

// gridCalls do something, much, and nothing.
func gridCalls() []gridCall {
	return []gridCall{
		{"GridGo", func(g impl.Grid) impl.Grid { return impl.GridGo(g, 1, 0) }},
		{"GridGo to where the cursor is", func(g impl.Grid) impl.Grid { return impl.GridGo(g, g.X, g.Y) }},
		{"GridScroll", impl.GridScroll},
		{"GridClear", func(g impl.Grid) impl.Grid { return impl.GridClear(g, 2, 7) }},
		{"GridClear of nothing", func(g impl.Grid) impl.Grid { return impl.GridClear(g, 3, 3) }},
		{"GridClear of all", func(g impl.Grid) impl.Grid { return impl.GridClear(g, 0, len(g.Cells)) }},
		{"GridPut of a letter", func(g impl.Grid) impl.Grid { return impl.GridPut(g, 'x') }},
		{"GridPut of a wide rune", func(g impl.Grid) impl.Grid { return impl.GridPut(g, wide) }},
		{"GridPut of no width", func(g impl.Grid) impl.Grid { return impl.GridPut(g, 7) }},
	}
}

// gridsOfAllKinds are right, and wrong.
func gridsOfAllKinds() []impl.Grid {
	return append(wrongGrids(), someGrid(), wrappedIn(someGrid(), 0), wrappedIn(someGrid(), 3), cursorAt(someGrid(), 5, 3), gridOf(2, ""), wrappedIn(gridOf(2, "中"), 0), gridOf(40, "a", "中", "b"))
}

// roomyGrid tells g with spare room behind its cells, and whether all of that is as it was.
func roomyGrid(g impl.Grid) (impl.Grid, func() bool) {
	whole := append(slices.Clone(g.Cells), slices.Repeat([]int{77}, 50)...)
	before := slices.Clone(whole)
	g.Cells = whole[:len(g.Cells)]
	return g, func() bool { return slices.Equal(whole, before) }
}

// spoilGrid overwrites all that the memory of its cells can reach.
func spoilGrid(g impl.Grid) {
	for i := range g.Cells[:cap(g.Cells)] {
		g.Cells[:cap(g.Cells)][i] ^= 12345
	}
}

func TestCallsOfGridsLeaveTheirArguments(t *testing.T) {
	for _, given := range gridsOfAllKinds() {
		for _, c := range gridCalls() {
			g, left := roomyGrid(given)
			out := c.call(g)
			if !left() {
				t.Fatalf("%s changes its argument %s", c.what, brief(given))
			}
			want := cloneGrid(out)
			again := c.call(g)
			if !sameGrid(again, want) {
				t.Fatalf("%s of %s answers something else the second time", c.what, brief(given))
			}
			spoilGrid(again)
			if !left() || !sameGrid(out, want) {
				t.Fatalf("%s of %s: the answer shares memory with the argument or with another answer", c.what, brief(given))
			}
			spoilGrid(g)
			if !sameGrid(out, want) {
				t.Fatalf("%s of %s: a change of the argument changes the answer", c.what, brief(given))
			}
		}
	}
}

func TestWhatIsAskedOfAGridLeavesIt(t *testing.T) {
	for _, given := range gridsOfAllKinds() {
		g, left := roomyGrid(given)
		other, otherLeft := roomyGrid(given)
		if impl.GridOk(g) != impl.GridOk(g) || impl.GridAt(g, 1, 0) != impl.GridAt(g, 1, 0) || impl.GridRow(g, 1) != impl.GridRow(g, 1) || !impl.SameGrid(g, other) || !impl.SameGrid(g, other) {
			t.Errorf("what is asked of %s is answered in two ways", brief(given))
		}
		if !left() || !otherLeft() {
			t.Errorf("what is asked of %s changes it", brief(given))
		}
	}
}

// The text of a row is not the cells: they may change.
func TestGridRowIsNewMemory(t *testing.T) {
	g := someGrid()
	text := impl.GridRow(g, 1)
	spoilGrid(g)
	if text != "中cd中" {
		t.Errorf("the row has become %q", text)
	}
}

// Nothing is kept from call to call: a new grid isn't touched by what is done with another.
func TestGridNewIsNewMemory(t *testing.T) {
	first, _ := impl.GridNew(6, 4)
	want := cloneGrid(first)
	second, _ := impl.GridNew(6, 4)
	for _, c := range gridCalls() {
		spoilGrid(c.call(second))
	}
	spoilGrid(second)
	third, _ := impl.GridNew(6, 4)
	if !sameGrid(first, want) || !sameGrid(third, want) {
		t.Errorf("GridNew is %s, then %s", brief(first), brief(third))
	}
}

// What is beside a false, and an answer of a grid that isn't right, is nothing at all.
func TestNothingOfGridsIsWhole(t *testing.T) {
	for _, given := range wrongGrids() {
		for _, c := range gridCalls() {
			wantNoGrid(t, c.what, given, c.call(given))
		}
	}
	for _, sides := range append(hugeSides(), [2]int{1, 1}, [2]int{2, 0}, [2]int{201, 1}, [2]int{2, 201}, [2]int{200, 41}, [2]int{81, 99}) {
		if g, ok := impl.GridNew(sides[0], sides[1]); ok || !sameGrid(g, impl.Grid{}) {
			t.Errorf("GridNew(%d, %d) = %s, %v", sides[0], sides[1], brief(g), ok)
		}
	}
}
