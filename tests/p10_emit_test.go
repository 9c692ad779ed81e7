package tests

import (
	"bytes"
	"strconv"
	"testing"

	"loop.example/g00600/impl"
)

// wantGone asks of what EmitStep answers that it takes the cursor of a terminal with that grid there, turns nothing else, and is no longer than the far way.
func wantGone(t *testing.T, g impl.Grid, x int, y int) []byte {
	t.Helper()
	b, ok := impl.EmitStep(g, x, y)
	if !ok {
		t.Fatalf("EmitStep(%s, %d, %d) is false", brief(g), x, y)
	}
	if far := impl.EmitGoto(x, y); len(b) > len(far) {
		t.Fatalf("EmitStep(%s, %d, %d) = %q, longer than %q", brief(g), x, y, b, far)
	}
	want := cloneGrid(g)
	want.X, want.Y = x, y
	want.Wrap = g.Wrap && len(b) == 0
	v := withBells(vtOf(g), 2)
	after := impl.VtFeed(v, b)
	if !sameVt(after, withBells(vtOf(want), 2)) || !sameVt(modelFed(v, string(b)), after) {
		t.Fatalf("behind %q of EmitStep(%s, %d, %d) the terminal is %s", b, brief(g), x, y, brief(after))
	}
	if !impl.SameGrid(after.Grid, impl.GridGo(g, x, y)) {
		t.Fatalf("EmitStep and GridGo of %s to %d, %d take it to two places", brief(g), x, y)
	}
	return b
}

// kindOfStep tells which of the six kinds those bytes are.
func kindOfStep(b []byte) string {
	switch {
	case len(b) == 0:
		return "none"
	case b[0] != 27:
		return string(b[:1])
	}
	return string(b[len(b)-1:])
}

func wantGoneEverywhere(t *testing.T, cursors []impl.Grid, places [][2]int, met map[string]int) {
	t.Helper()
	for _, g := range cursors {
		for _, to := range places {
			met[kindOfStep(wantGone(t, g, to[0], to[1]))]++
		}
	}
}

func TestP10MovingTurnsNoCell(t *testing.T) {
	met := map[string]int{}
	for _, g := range []impl.Grid{someGrid(), gridOf(2, "中"), gridOf(2, "ab", " c", "中"), gridOf(5, "abcde", "中中x", "", "x中中"), gridOf(12, "中中中中中中", "a b c d e f ", "0123456789ab"), gridOf(11, "", "", "", "", "", "", "", "", "0123456789x", "中中中中中x", "x中中中中中")} {
		wantGoneEverywhere(t, withAllCursors(g, allPlaces(g)), allPlaces(g), met)
	}
	for _, sides := range [][2]int{{100, 1}, {101, 2}, {111, 1}, {2, 100}, {3, 101}} {
		g := emptyGrid(t, sides[0], sides[1], 0, 0)
		wantGoneEverywhere(t, withAllCursors(g, placesAtEdges(g)), allPlaces(g), met)
	}
	wantMet(t, met, 50, "none", "\r", "\b", "C", "D", "H")
}

func TestP10MovingOnAllSmallGrids(t *testing.T) {
	met := map[string]int{}
	for _, g := range append(smallGrids(2, 2), smallGrids(4, 1)...) {
		wantGoneEverywhere(t, []impl.Grid{g}, allPlaces(g), met)
	}
}

func TestP10MovingOnGreatGrids(t *testing.T) {
	by := dice(275604541)
	for _, sides := range [][2]int{{200, 40}, {40, 200}, {80, 100}, {100, 80}} {
		g := rolledGrid(&by, sides[0], sides[1])
		places := placesAtEdges(g)
		for _, from := range withAllCursors(g, places) {
			to := pick(&by, places)
			wantGone(t, from, to[0], to[1])
		}
	}
}

// rolledGrid has had runes of each width put at rolled places.
func rolledGrid(by *dice, w int, h int) impl.Grid {
	g, _ := impl.GridNew(w, h)
	v := vtOf(g)
	for range by.roll(6) {
		v = impl.VtFeed(v, impl.EmitGoto(by.roll(w), by.roll(h)))
		var l []int
		for range by.roll(2 * w) {
			l = append(l, rolledRune(by))
		}
		v = impl.VtFeed(v, impl.EmitRunes(l))
	}
	return v.Grid
}

// The far way goes as far as the screen does.
func TestP10TheFarWay(t *testing.T) {
	for _, g := range []impl.Grid{someGrid(), wrappedIn(someGrid(), 0), gridOf(2, "中"), emptyGrid(t, 200, 40, 7, 7), emptyGrid(t, 40, 200, 7, 7)} {
		for _, x := range []int{0, 1, 4, 5, 6, 9, 39, 99, 199} {
			for _, y := range []int{0, 1, 3, 4, 8, 9, 39, 40, 199} {
				v := vtOf(g)
				wantVt(t, "the far way", v, impl.VtFeed(v, impl.EmitGoto(x, y)), vtOf(modelGo(g, x, y)))
			}
		}
	}
}

// wantPutOn asks that the bytes of a rune put it on a terminal as GridPut does, in one go and byte by byte.
func wantPutOn(t *testing.T, g impl.Grid, r int) impl.Grid {
	t.Helper()
	b := impl.EmitRunes([]int{r})
	v := withBells(vtOf(g), 3)
	want := withBells(vtOf(impl.GridPut(g, r)), 3)
	if !sameGrid(want.Grid, modelPut(g, r)) {
		t.Fatalf("GridPut(%s, %d) is %s", brief(g), r, brief(want.Grid))
	}
	if after := impl.VtFeed(v, b); !sameVt(after, want) {
		t.Fatalf("behind %q, the bytes of %d, the terminal %s\nis %s\nwant %s", b, r, brief(v), brief(after), brief(want))
	}
	if after := byBytes(v, string(b)); !sameVt(after, want) {
		t.Fatalf("behind each byte of %q, those of %d, the terminal %s\nis %s\nwant %s", b, r, brief(v), brief(after), brief(want))
	}
	return want.Grid
}

func TestP10TheBytesOfARunePutIt(t *testing.T) {
	runes := append(runeEdges(), farInts()...)
	runes = append(runes, impl.Half, 'a', '[', ';', '0', 'H', 233, wide, 128512, 27, 7, 8, 13)
	for _, ends := range wideRanges() {
		runes = append(runes, ends[0]-1, ends[0], ends[1], ends[1]+1)
	}
	grids := withAllCursors(someGrid(), allPlaces(someGrid()))
	grids = append(grids, gridOf(2, "中"), cursorAt(gridOf(2, "中"), 1, 0), wrappedIn(gridOf(2, "中"), 0), wrappedIn(gridOf(3, "ab", "x中"), 1))
	for _, g := range grids {
		for _, r := range runes {
			wantPutOn(t, g, r)
		}
	}
}

func TestP10TheBytesOfEachRunePutIt(t *testing.T) {
	g := gridOf(3, "a中")
	for r := -100; r < impl.MaxRune+100; r += 3 {
		b := impl.EmitRunes([]int{r})
		v := impl.VtFeed(vtOf(g), b)
		if !sameVt(v, vtOf(impl.GridPut(g, r))) {
			t.Fatalf("behind %q, the bytes of %d, the terminal is %s", b, r, brief(v))
		}
	}
}

// wantRowSent sends steps and runes to one terminal, and does the same to a grid.
func wantRowSent(t *testing.T, w int, h int, by *dice, met map[string]int) {
	t.Helper()
	start, _ := impl.VtNew(w, h)
	g := start.Grid
	var sent []byte
	for range 120 {
		if by.roll(3) == 0 {
			x, y := by.roll(w), by.roll(h)
			b := wantGone(t, g, x, y)
			met[kindOfStep(b)]++
			if g.Wrap {
				met["with Wrap "+kindOfStep(b)]++
			}
			sent = append(sent, b...)
			g = modelGo(g, x, y)
			continue
		}
		r := rolledRune(by)
		sent = append(sent, impl.EmitRunes([]int{r})...)
		g = wantPutOn(t, g, r)
	}
	wantVt(t, "all that was sent", start, impl.VtFeed(start, sent), vtOf(g))
	now := start
	for len(sent) > 0 {
		n := min(1+by.roll(7), len(sent))
		now = impl.VtFeed(now, sent[:n])
		sent = sent[n:]
	}
	wantVt(t, "all that was sent, in parts", start, now, vtOf(g))
}

func TestP10StepsAndRunesInARow(t *testing.T) {
	by := dice(573259391)
	met := map[string]int{}
	for w := 2; w <= 14; w++ {
		for h := 1; h <= 4; h++ {
			wantRowSent(t, w, h, &by, met)
		}
	}
	for _, sides := range [][2]int{{120, 2}, {2, 120}, {30, 12}} {
		wantRowSent(t, sides[0], sides[1], &by, met)
	}
	wantMet(t, met, 15, "none", "\r", "\b", "C", "D", "H", "with Wrap \r", "with Wrap H")
}

// A list of runes is each of them, one behind the other.
func TestP10AListOfRunesIsEachOfThem(t *testing.T) {
	by := dice(982451653)
	for range 600 {
		g := rolledGrid(&by, 2+by.roll(9), 1+by.roll(4))
		v, want := vtOf(g), g
		var l []int
		var sent []byte
		for range by.roll(20) {
			r := rolledRune(&by)
			l = append(l, r)
			sent = append(sent, impl.EmitRunes([]int{r})...)
			want = impl.GridPut(want, r)
		}
		if b := impl.EmitRunes(l); !bytes.Equal(b, sent) {
			t.Fatalf("EmitRunes(%v) = %q; of each %q", l, b, sent)
		}
		wantVt(t, "VtFeed of "+strconv.Itoa(len(l))+" runes", v, impl.VtFeed(v, sent), vtOf(want))
	}
}
