package tests

import (
	"bytes"
	"slices"
	"testing"

	"loop.example/g00600/impl"
)

// wantOwnMemory asks for the same bytes at each call, whatever is done to those of the calls before, and for an argument that is left; change spoils the argument.
func wantOwnMemory(t *testing.T, what string, call func() []byte, left func() bool, change func()) {
	t.Helper()
	first := call()
	if !left() {
		t.Fatalf("%s changes its argument", what)
	}
	want := bytes.Clone(first)
	second := call()
	if !bytes.Equal(second, want) {
		t.Fatalf("%s answers %q, then %q", what, want, second)
	}
	spoil(second)
	third := call()
	if !left() || !bytes.Equal(first, want) || !bytes.Equal(third, want) {
		t.Fatalf("%s: the answer shares memory with the argument or with another answer", what)
	}
	change()
	if !bytes.Equal(first, want) || !bytes.Equal(third, want) {
		t.Fatalf("%s: a change of the argument changes the answer", what)
	}
}

func TestEmitGotoIsNewMemory(t *testing.T) {
	for _, at := range [][2]int{{0, 0}, {9, 9}, {99, 8}, {199, 199}, {-1, 0}, {0, 200}} {
		call := func() []byte { return impl.EmitGoto(at[0], at[1]) }
		wantOwnMemory(t, "EmitGoto", call, func() bool { return true }, func() {})
	}
}

func TestEmitStepLeavesTheGrid(t *testing.T) {
	for _, given := range gridsOfAllKinds() {
		for x := -1; x <= 6; x++ {
			for y := -1; y <= 4; y++ {
				g, left := roomyGrid(given)
				call := func() []byte {
					b, ok := impl.EmitStep(g, x, y)
					if !ok && len(b) > 0 {
						t.Fatalf("EmitStep of %s is %q beside false", brief(given), b)
					}
					return b
				}
				wantOwnMemory(t, "EmitStep of "+brief(given), call, left, func() { spoilGrid(g) })
			}
		}
	}
}

func TestEmitRunesLeavesTheList(t *testing.T) {
	for _, l := range [][]int{nil, {'a'}, {7}, {'a', 233, wide, 128512}, {-1, 'a', 10, impl.Half, wide, 55296}, slices.Repeat([]int{wide}, 500)} {
		whole := append(slices.Clone(l), slices.Repeat([]int{77}, 16)...)
		before := slices.Clone(whole)
		call := func() []byte { return impl.EmitRunes(whole[:len(l)]) }
		left := func() bool { return slices.Equal(whole, before) }
		wantOwnMemory(t, "EmitRunes", call, left, func() { clear(whole) })
	}
}

func TestEmitCostLeavesTheBytes(t *testing.T) {
	for _, text := range append(textsThatAreCut(), "\x1b[1", "\x1bx", "ab\x1b[2;3Hc\r") {
		b, whole := roomy([]byte(text))
		before := bytes.Clone(whole)
		if impl.EmitCost(b) != modelCost(text) || impl.EmitCost(b) != modelCost(text) {
			t.Errorf("EmitCost of %q with spare room is another one", text)
		}
		if !bytes.Equal(whole, before) {
			t.Errorf("EmitCost changes %q", text)
		}
	}
}

// What stands in the spare room behind the bytes isn't looked at.
func TestEmitCostEndsWithTheBytes(t *testing.T) {
	whole := []byte("a\x1b[12;3Hbc")
	for n := range len(whole) + 1 {
		if got := impl.EmitCost(whole[:n]); got != modelCost(string(whole[:n])) {
			t.Errorf("EmitCost of %q is %d", whole[:n], got)
		}
	}
}
