package tests

import (
	"slices"
	"strconv"
	"testing"

	"loop.example/g00600/impl"
)

func TestConstantsOfTheTerminal(t *testing.T) {
	if impl.MaxArg != 9999 || impl.MaxArgs != 4 || impl.MaxBells != 1000000 || impl.VtPlain != 0 || impl.VtEsc != 1 || impl.VtCsi != 2 {
		t.Error("the constants of chapter 10 are others")
	}
}

func wantBegins(t *testing.T, want bool, l ...string) {
	t.Helper()
	for _, s := range l {
		if modelBegins([]byte(s)) != want {
			t.Fatalf("the test itself is wrong: %x", s)
		}
		if impl.RuneBegin([]byte(s)) != want {
			t.Errorf("RuneBegin is %v of %x", !want, s)
		}
	}
}

func TestRuneBeginOfFirstBytes(t *testing.T) {
	wantBegins(t, false, "")
	if impl.RuneBegin(nil) || impl.RuneBegin([]byte{}) {
		t.Error("RuneBegin is true of no byte")
	}
	wantBegins(t, false, "\x00", "\x07", "\x1b", " ", "a", "\x7f")
	wantBegins(t, false, "\x80", "\x81", "\xa0", "\xbe", "\xbf", "\xc0", "\xc1")
	wantBegins(t, true, "\xc2", "\xc3", "\xd0", "\xde", "\xdf")
	wantBegins(t, true, "\xe0", "\xe1", "\xe4", "\xec", "\xed", "\xee", "\xef")
	wantBegins(t, true, "\xf0", "\xf1", "\xf3", "\xf4")
	wantBegins(t, false, "\xf5", "\xf6", "\xf7", "\xf8", "\xfb", "\xfc", "\xfd", "\xfe", "\xff")
}

// The shortest form alone is a rune; the halves of a pair and what is above the last rune are none.
func TestRuneBeginOfSecondBytes(t *testing.T) {
	wantBegins(t, false, "\xe0\x7f", "\xe0\x80", "\xe0\x9e", "\xe0\x9f", "\xe0\xc0", "\xe0\xff", "\xe0\x00")
	wantBegins(t, true, "\xe0\xa0", "\xe0\xa1", "\xe0\xbe", "\xe0\xbf")
	wantBegins(t, false, "\xe1\x7f", "\xe1\xc0", "\xec\x7f", "\xec\xc0", "\xee\x7f", "\xee\xc0", "\xef\x7f", "\xef\xc0", "\xe4a", "\xe4\xe4")
	wantBegins(t, true, "\xe1\x80", "\xe1\xbf", "\xec\x80", "\xec\xbf", "\xee\x80", "\xee\xbf", "\xef\x80", "\xef\xbf")
	wantBegins(t, true, "\xed\x80", "\xed\x9e", "\xed\x9f")
	wantBegins(t, false, "\xed\x7f", "\xed\xa0", "\xed\xa1", "\xed\xaf", "\xed\xb0", "\xed\xbf", "\xed\xc0")
	wantBegins(t, false, "\xf0\x7f", "\xf0\x80", "\xf0\x8e", "\xf0\x8f", "\xf0\xc0")
	wantBegins(t, true, "\xf0\x90", "\xf0\x91", "\xf0\xbf")
	wantBegins(t, false, "\xf1\x7f", "\xf1\xc0", "\xf3\x7f", "\xf3\xc0", "\xf4\x7f", "\xf4\x90", "\xf4\x91", "\xf4\xbf", "\xf4\xc0")
	wantBegins(t, true, "\xf1\x80", "\xf1\xbf", "\xf3\x80", "\xf3\xbf", "\xf4\x80", "\xf4\x8e", "\xf4\x8f")
	wantBegins(t, false, "\xf5\x80", "\xf7\xbf", "\xf8\x88", "\xff\xbf", "\xc0\x80", "\xc1\xbf", "\x80\x80", "a\x80")
}

func TestRuneBeginOfThirdBytes(t *testing.T) {
	wantBegins(t, true, "\xf0\x90\x80", "\xf0\x90\xbf", "\xf0\x9f\x98", "\xf3\xbf\xbf", "\xf4\x8f\x80", "\xf4\x8f\xbf")
	wantBegins(t, false, "\xf0\x90\x7f", "\xf0\x90\xc0", "\xf0\x8f\xbf", "\xf4\x90\x80", "\xf4\x8f\x7f", "\xf4\x8f\xc0", "\xf5\x80\x80", "\xf0\x9fa", "\xf8\x88\x80")
}

func TestRuneBeginOfWholeRunes(t *testing.T) {
	for _, r := range runeEdges() {
		if !isRune(r) {
			continue
		}
		whole := string(bytesOfRune(r))
		wantBegins(t, false, whole, whole+"\x80", whole+"\xbf", whole+"a", whole+whole, whole+"\xc3")
		for n := 1; n < len(whole); n++ {
			wantBegins(t, true, whole[:n])
			wantBegins(t, false, whole[:n]+"a", whole[:n]+"\xff", whole[:n]+whole[:1], "a"+whole[:n])
		}
	}
	for _, s := range formsThatAreNoRune() {
		wantBegins(t, modelBegins([]byte(s)), s)
		wantBegins(t, false, s+"a", s+"\xff", "\xff"+s, s+"\x80\x80\x80\x80")
	}
}

func TestRuneBeginOfAllShortBytes(t *testing.T) {
	edges := []byte{0, 'a', 127, 128, 129, 143, 144, 159, 160, 190, 191, 192, 195, 224, 240, 255}
	same := func(b ...byte) {
		if impl.RuneBegin(b) != modelBegins(b) {
			t.Errorf("RuneBegin is %v of %x", impl.RuneBegin(b), b)
		}
	}
	for a := range 256 {
		same(byte(a))
		for b := range 256 {
			same(byte(a), byte(b))
			for _, c := range edges {
				same(byte(a), byte(b), c)
				same(byte(a), byte(b), c, edges[(a+b)%len(edges)])
				same(byte(a), byte(b), c, 128)
			}
		}
	}
}

// someVt has a screen on which much stands, and two bells.
func someVt() impl.Vt { return impl.Vt{Grid: someGrid(), Bells: 2} }

func vtOf(g impl.Grid) impl.Vt { return impl.Vt{Grid: g} }

func inEscape(v impl.Vt) impl.Vt {
	v.State = impl.VtEsc
	return v
}

func inSequence(v impl.Vt, args ...int) impl.Vt {
	v.State, v.Args = impl.VtCsi, args
	return v
}

func inRune(v impl.Vt, part string) impl.Vt {
	v.Part = []byte(part)
	return v
}

func withBells(v impl.Vt, n int) impl.Vt {
	v.Bells = n
	return v
}

// vtsInAllStates have that terminal's screen and bells.
func vtsInAllStates(v impl.Vt) []impl.Vt {
	return []impl.Vt{
		v, inRune(v, "\xc3"), inRune(v, "\xe0"), inRune(v, "\xe4\xb8"), inRune(v, "\xed"), inRune(v, "\xf0"), inRune(v, "\xf0\x9f"), inRune(v, "\xf4\x8f\xbf"), inRune(v, "\xf0\x9f\x98"),
		inEscape(v), inSequence(v), inSequence(v, 0), inSequence(v, 1), inSequence(v, 2), inSequence(v, 3), inSequence(v, 999), inSequence(v, 1000), inSequence(v, 9999),
		inSequence(v, 0, 0), inSequence(v, 2, 3), inSequence(v, 0, 2), inSequence(v, 1, 0), inSequence(v, 2, 1, 0), inSequence(v, 1, 2, 3, 4), inSequence(v, 0, 0, 0, 0), inSequence(v, 9999, 9999, 9999, 9999),
	}
}

// someVts are right terminals in all states and at all edges of the screen.
func someVts() []impl.Vt {
	var out []impl.Vt
	for _, g := range []impl.Grid{someGrid(), cursorAt(someGrid(), 0, 0), cursorAt(someGrid(), 5, 3), wrappedIn(someGrid(), 1), wrappedIn(someGrid(), 3), gridOf(2, "中"), wrappedIn(gridOf(2, "ab"), 0)} {
		out = append(out, vtsInAllStates(vtOf(g))...)
	}
	return append(out, withBells(someVt(), impl.MaxBells), withBells(someVt(), impl.MaxBells-1))
}

// wrongVts are not right, each by one change of a right one.
func wrongVts() []impl.Vt {
	var out []impl.Vt
	for _, g := range wrongGrids() {
		out = append(out, vtOf(g), inEscape(vtOf(g)), inSequence(vtOf(g), 2))
	}
	out = append(out, impl.Vt{}, impl.Vt{Bells: 1}, inSequence(impl.Vt{}))
	for _, state := range append(extremes(), 3, 4) {
		v := someVt()
		v.State = state
		if state != 0 && state != 1 {
			out = append(out, v)
		}
	}
	for _, n := range append(extremes(), 10000) {
		if n < 0 || n > 9999 {
			out = append(out, inSequence(someVt(), n), inSequence(someVt(), 1, n), inSequence(someVt(), 1, 2, n), inSequence(someVt(), 1, 2, 3, n))
		}
	}
	out = append(out, inSequence(someVt(), 1, 2, 3, 4, 5), inSequence(someVt(), make([]int, 9999)...))
	for _, args := range [][]int{{0}, {1}, {2, 3}, {0, 0, 0, 0}} {
		plain := inSequence(someVt(), args...)
		plain.State = impl.VtPlain
		escaped := inSequence(someVt(), args...)
		escaped.State = impl.VtEsc
		out = append(out, plain, escaped)
	}
	for _, part := range []string{"\xc3", "\xe4\xb8", "\xf0\x9f\x98"} {
		out = append(out, inEscape(inRune(someVt(), part)), inSequence(inRune(someVt(), part)), inSequence(inRune(someVt(), part), 1))
	}
	for _, part := range []string{"\x00", "a", "\x80", "\xc1", "\xff", "é", "中", "\xf0\x9f\x98\x80", "\xe0\x80", "\xed\xa0", "\xf4\x90", "\xc3a", "a\xc3", "\xc3\xc3", "\xe4\xb8\xad\xe4"} {
		out = append(out, inRune(someVt(), part))
	}
	for _, n := range append(extremes(), impl.MaxBells+1) {
		if n < 0 || n > impl.MaxBells {
			out = append(out, withBells(someVt(), n), inEscape(withBells(someVt(), n)))
		}
	}
	return out
}

func wantVtOk(t *testing.T, v impl.Vt, want bool) {
	t.Helper()
	if modelVt(v) != want {
		t.Fatalf("the test itself is wrong: %s", brief(v))
	}
	if impl.VtOk(v) != want {
		t.Errorf("VtOk is %v of %s", !want, brief(v))
	}
}

func TestVtOk(t *testing.T) {
	for _, v := range someVts() {
		wantVtOk(t, v, true)
	}
	for _, v := range wrongVts() {
		wantVtOk(t, v, false)
	}
	v, _ := modelVtNew(200, 40)
	wantVtOk(t, v, true)
}

func TestVtOkOfStates(t *testing.T) {
	for _, state := range append(extremes(), -2, 2, 3, 4) {
		v := someVt()
		v.State = state
		wantVtOk(t, v, state == impl.VtPlain || state == impl.VtEsc || state == impl.VtCsi)
	}
}

func TestVtOkOfArgs(t *testing.T) {
	for _, n := range append(extremes(), 9, 10, 9998, 9999, 10000, 10001) {
		right := 0 <= n && n <= 9999
		for count := 1; count <= 5; count++ {
			for at := range count {
				args := make([]int, count)
				args[at] = n
				wantVtOk(t, inSequence(someVt(), args...), right && count <= 4)
				plain, escaped := inSequence(someVt(), args...), inSequence(someVt(), args...)
				plain.State, escaped.State = impl.VtPlain, impl.VtEsc
				wantVtOk(t, plain, false)
				wantVtOk(t, escaped, false)
			}
		}
	}
	for count := range 10 {
		wantVtOk(t, inSequence(someVt(), slices.Repeat([]int{7}, count)...), count <= 4)
	}
}

func TestVtOkOfPart(t *testing.T) {
	for _, r := range runeEdges() {
		whole := string(bytesOfRune(r))
		for n := 1; n < len(whole); n++ {
			wantVtOk(t, inRune(someVt(), whole[:n]), true)
			wantVtOk(t, inEscape(inRune(someVt(), whole[:n])), false)
			wantVtOk(t, inSequence(inRune(someVt(), whole[:n])), false)
			wantVtOk(t, inSequence(inRune(someVt(), whole[:n]), 1), false)
			wantVtOk(t, inRune(someVt(), whole[:n]+"a"), false)
		}
		if whole != "" {
			wantVtOk(t, inRune(someVt(), whole), false)
			wantVtOk(t, inRune(someVt(), whole+"\x80"), false)
		}
	}
	for _, s := range formsThatAreNoRune() {
		wantVtOk(t, inRune(someVt(), s), modelBegins([]byte(s)))
	}
}

// A list without elements and a list that is nil are the same.
func TestVtOkOfEmptyLists(t *testing.T) {
	for state := range 3 {
		v := someVt()
		v.State, v.Args, v.Part = state, []int{}, []byte{}
		wantVtOk(t, v, true)
	}
}

func TestVtOkOfBells(t *testing.T) {
	for _, n := range append(extremes(), 2, 999999, 1000000, 1000001) {
		wantVtOk(t, withBells(someVt(), n), 0 <= n && n <= 1000000)
		wantVtOk(t, inEscape(withBells(someVt(), n)), 0 <= n && n <= 1000000)
		wantVtOk(t, inSequence(withBells(someVt(), n), 3), 0 <= n && n <= 1000000)
	}
}

func TestVtOkOfGrids(t *testing.T) {
	for _, g := range wrongGrids() {
		for _, v := range vtsInAllStates(vtOf(g)) {
			wantVtOk(t, v, false)
		}
	}
}

func wantVtNew(t *testing.T, w int, h int) {
	t.Helper()
	got, ok := impl.VtNew(w, h)
	want, wantOk := modelVtNew(w, h)
	if ok != wantOk || !sameVt(got, want) || impl.VtOk(got) != ok {
		t.Errorf("VtNew(%d, %d) = %s, %v", w, h, brief(got), ok)
	}
}

func TestVtNew(t *testing.T) {
	v, ok := impl.VtNew(3, 2)
	if !ok || !sameVt(v, impl.Vt{Grid: impl.Grid{W: 3, H: 2, Cells: blanks(6)}, State: impl.VtPlain}) {
		t.Errorf("VtNew(3, 2) = %s, %v", brief(v), ok)
	}
	for _, sides := range sidesOfAllKinds() {
		wantVtNew(t, sides[0], sides[1])
	}
}

// sidesOfAllKinds are those that a grid may have, those just beside, and far ones.
func sidesOfAllKinds() [][2]int {
	out := append(hugeSides(), [2]int{80, 24}, [2]int{80, 100}, [2]int{100, 80}, [2]int{80, 101}, [2]int{81, 99}, [2]int{89, 89}, [2]int{89, 90})
	near := []int{-2, -1, 0, 1, 2, 3, 39, 40, 41, 199, 200, 201}
	for _, w := range near {
		for _, h := range near {
			out = append(out, [2]int{w, h})
		}
	}
	for _, far := range extremes() {
		out = append(out, [2]int{far, 2}, [2]int{2, far}, [2]int{far, far})
	}
	return out
}

func wantVtSize(t *testing.T, v impl.Vt, w int, h int, wantOk bool) {
	t.Helper()
	want, modelOk := modelSized(v, w, h)
	if modelOk != wantOk {
		t.Fatalf("the test itself is wrong: %d columns and %d rows of %s", w, h, brief(v))
	}
	got, ok := impl.VtSize(v, w, h)
	if ok != wantOk || !sameVt(got, want) || impl.VtOk(got) != ok {
		t.Errorf("VtSize(%d, %d) of %s\nis %s, %v", w, h, brief(v), brief(got), ok)
	}
}

func TestVtSize(t *testing.T) {
	got, ok := impl.VtSize(inSequence(someVt(), 2, 3), 4, 2)
	if !ok || !sameVt(got, impl.Vt{Grid: gridOf(4, "", ""), Bells: 2}) {
		t.Errorf("VtSize in the midst of a sequence is %s, %v", brief(got), ok)
	}
	for _, n := range []int{0, 1, impl.MaxBells - 1, impl.MaxBells} {
		got, ok := impl.VtSize(withBells(someVt(), n), 6, 4)
		if !ok || got.Bells != n || impl.GridRow(got.Grid, 1) != "" || got.Grid.X != 0 || got.Grid.Y != 0 {
			t.Errorf("VtSize with %s bells is %s, %v", strconv.Itoa(n), brief(got), ok)
		}
	}
	for _, sides := range sidesOfAllKinds() {
		wantVtSize(t, someVt(), sides[0], sides[1], modelSides(sides[0], sides[1]))
	}
	for _, v := range someVts() {
		wantVtSize(t, v, 5, 3, true)
		wantVtSize(t, v, v.Grid.W, v.Grid.H, true)
		wantVtSize(t, v, 1, 3, false)
		wantVtSize(t, v, 200, 41, false)
	}
	for _, v := range wrongVts() {
		wantVtSize(t, v, 5, 3, false)
		wantVtSize(t, v, 5, 0, false)
	}
}
