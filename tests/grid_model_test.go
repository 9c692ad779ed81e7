package tests

import (
	"slices"

	"loop.example/g00600/impl"
)

// The model is chapter 9 cell by cell, each looked at for itself, by its column and row: slow, and no cells are moved or blanked together.

func modelWidth(r int) int {
	if !isRune(r) || r < 32 || 127 <= r && r <= 159 {
		return 0
	}
	for _, ends := range wideRanges() {
		if ends[0] <= r && r <= ends[1] {
			return 2
		}
	}
	return 1
}

// modelCell tells 0 beside the grid.
func modelCell(g impl.Grid, x int, y int) int {
	if x < 0 || x > g.W-1 || y < 0 || y > g.H-1 {
		return 0
	}
	return g.Cells[y*g.W+x]
}

func modelCellRight(g impl.Grid, x int, y int) bool {
	c := modelCell(g, x, y)
	switch modelWidth(c) {
	case 1:
		return true
	case 2:
		return modelCell(g, x+1, y) == -1
	}
	return c == -1 && modelWidth(modelCell(g, x-1, y)) == 2
}

func modelSides(w int, h int) bool {
	return 2 <= w && w <= 200 && 1 <= h && h <= 200 && w*h <= 8000
}

func modelGrid(g impl.Grid) bool {
	if !modelSides(g.W, g.H) || len(g.Cells) != g.W*g.H {
		return false
	}
	for y := range g.H {
		for x := range g.W {
			if !modelCellRight(g, x, y) {
				return false
			}
		}
	}
	return 0 <= g.X && g.X < g.W && 0 <= g.Y && g.Y < g.H && (g.X == g.W-1 || !g.Wrap)
}

func modelGridNew(w int, h int) (impl.Grid, bool) {
	if !modelSides(w, h) {
		return impl.Grid{}, false
	}
	g := impl.Grid{W: w, H: h}
	for range w * h {
		g.Cells = append(g.Cells, 32)
	}
	return g, true
}

func modelAt(g impl.Grid, x int, y int) int {
	if !modelGrid(g) {
		return 0
	}
	return modelCell(g, x, y)
}

// modelRow looks for the last cell that isn't blank, and tells what stands up to it.
func modelRow(g impl.Grid, y int) string {
	if !modelGrid(g) {
		return ""
	}
	last := g.W - 1
	for last >= 0 && modelCell(g, last, y) == 32 {
		last--
	}
	var out []byte
	for x := range last + 1 {
		out = append(out, bytesOfRune(modelCell(g, x, y))...)
	}
	return string(out)
}

func modelGo(g impl.Grid, x int, y int) impl.Grid {
	if !modelGrid(g) {
		return impl.Grid{}
	}
	within := func(n int, side int) int {
		if n < 0 {
			return 0
		}
		if n > side-1 {
			return side - 1
		}
		return n
	}
	return impl.Grid{W: g.W, H: g.H, Cells: slices.Clone(g.Cells), X: within(x, g.W), Y: within(y, g.H)}
}

func modelScroll(g impl.Grid) impl.Grid {
	if !modelGrid(g) {
		return impl.Grid{}
	}
	out := cloneGrid(g)
	for y := range g.H {
		for x := range g.W {
			c := 32
			if y < g.H-1 {
				c = modelCell(g, x, y+1)
			}
			out.Cells[y*g.W+x] = c
		}
	}
	return out
}

func modelClear(g impl.Grid, from int, to int) impl.Grid {
	if !modelGrid(g) {
		return impl.Grid{}
	}
	named := func(x int, y int) bool { return from <= y*g.W+x && y*g.W+x < to }
	out := cloneGrid(g)
	for y := range g.H {
		for x := range g.W {
			c := modelCell(g, x, y)
			if named(x, y) || c == -1 && named(x-1, y) || modelWidth(c) == 2 && named(x+1, y) {
				out.Cells[y*g.W+x] = 32
			}
		}
	}
	return out
}

func modelPut(g impl.Grid, r int) impl.Grid {
	width := modelWidth(r)
	if width == 0 || !modelGrid(g) {
		return modelClear(g, 0, 0)
	}
	if g.Wrap || width == 2 && g.X == g.W-1 {
		if g.Y == g.H-1 {
			g = modelGo(modelScroll(g), 0, g.Y)
		} else {
			g = modelGo(g, 0, g.Y+1)
		}
	}
	at := g.Y*g.W + g.X
	out := modelClear(g, at, at+width)
	out.Cells[at] = r
	if width == 2 {
		out.Cells[at+1] = -1
	}
	if g.X+width == g.W {
		out.X, out.Wrap = g.W-1, true
	} else {
		out.X = g.X + width
	}
	return out
}

func cloneGrid(g impl.Grid) impl.Grid {
	g.Cells = slices.Clone(g.Cells)
	return g
}

func sameGrid(a impl.Grid, b impl.Grid) bool {
	return slices.Equal([]int{a.W, a.H, a.X, a.Y}, []int{b.W, b.H, b.X, b.Y}) && a.Wrap == b.Wrap && slices.Equal(a.Cells, b.Cells)
}
