package tests

import (
	"bytes"
	"slices"
	"testing"
	"unsafe"

	"loop.example/g00600/impl"
)

// vtCall is a call of a function of chapter 10 that is given a terminal and answers one.
type vtCall struct {
	what string
	call func(v impl.Vt) impl.Vt
}

func callByte(b int) vtCall {
	return vtCall{"VtByte", func(v impl.Vt) impl.Vt { return impl.VtByte(v, b) }}
}

func callFeed(text string) vtCall {
	return vtCall{"VtFeed", func(v impl.Vt) impl.Vt { return impl.VtFeed(v, []byte(text)) }}
}

func callSize(w int, h int) vtCall {
	return vtCall{"VtSize", func(v impl.Vt) impl.Vt {
		out, _ := impl.VtSize(v, w, h)
		return out
	}}
}

// vtCalls do something, much, and nothing, in each state.
func vtCalls() []vtCall {
	calls := []vtCall{callFeed(""), callFeed("a"), callFeed("\xf0\x9f"), callFeed("\x1b[2;3"), callFeed("\x1b[1;2;3;4"), callFeed("x\x1b[2J中\a\n\x1b[5;5"), callSize(6, 4), callSize(2, 1), callSize(1, 1)}
	for _, b := range []int{-1, 256, 0, 7, 8, 10, 13, 27, ' ', 'a', '[', '1', '9', ';', 'A', 'H', 'J', 'K', 'm', 127, 128, 152, 169, 173, 195, 228, 240, 255} {
		calls = append(calls, callByte(b))
	}
	return calls
}

// roomyVt tells v with spare room behind its lists, and whether all of that is as it was.
func roomyVt(v impl.Vt) (impl.Vt, func() bool) {
	grid, gridLeft := roomyGrid(v.Grid)
	args := append(slices.Clone(v.Args), slices.Repeat([]int{77}, 6)...)
	argsBefore := slices.Clone(args)
	part, partWhole := roomy(v.Part)
	partBefore := bytes.Clone(partWhole)
	v.Grid, v.Args, v.Part = grid, args[:len(v.Args)], part
	return v, func() bool {
		return gridLeft() && slices.Equal(args, argsBefore) && bytes.Equal(partWhole, partBefore)
	}
}

func spoilVt(v impl.Vt) {
	spoilGrid(v.Grid)
	spoil(v.Part)
	for i := range v.Args[:cap(v.Args)] {
		v.Args[:cap(v.Args)][i] ^= 12345
	}
}

func TestCallsOfTheTerminalLeaveTheirArguments(t *testing.T) {
	for _, given := range append(someVts(), wrongVts()...) {
		for _, c := range vtCalls() {
			v, left := roomyVt(given)
			out := c.call(v)
			if !left() {
				t.Fatalf("%s changes its argument %s", c.what, brief(given))
			}
			want := cloneVt(out)
			again := c.call(v)
			if !sameVt(again, want) {
				t.Fatalf("%s of %s answers something else the second time", c.what, brief(given))
			}
			spoilVt(again)
			if !left() || !sameVt(out, want) {
				t.Fatalf("%s of %s: the answer shares memory with the argument or with another answer", c.what, brief(given))
			}
			spoilVt(v)
			if !sameVt(out, want) {
				t.Fatalf("%s of %s: a change of the argument changes the answer", c.what, brief(given))
			}
		}
	}
}

// meet says whether the memory that two lists reach is, in part, the same.
func meet[A any, B any](a []A, b []B) bool {
	if cap(a) == 0 || cap(b) == 0 {
		return false
	}
	from := uintptr(unsafe.Pointer(unsafe.SliceData(a)))
	other := uintptr(unsafe.Pointer(unsafe.SliceData(b)))
	return from < other+uintptr(cap(b))*unsafe.Sizeof(b[:1][0]) && other < from+uintptr(cap(a))*unsafe.Sizeof(a[:1][0])
}

func TestTheListsOfATerminalShareNothing(t *testing.T) {
	for _, given := range someVts() {
		for _, c := range vtCalls() {
			v, _ := roomyVt(given)
			out := c.call(v)
			if meet(out.Grid.Cells, out.Args) || meet(out.Grid.Cells, out.Part) || meet(out.Args, out.Part) {
				t.Fatalf("%s of %s: two lists of the answer share memory", c.what, brief(given))
			}
			if meet(out.Grid.Cells, v.Grid.Cells) || meet(out.Args, v.Args) || meet(out.Part, v.Part) || meet(out.Grid.Cells, v.Args) || meet(out.Args, v.Grid.Cells) {
				t.Fatalf("%s of %s: the answer shares memory with the argument", c.what, brief(given))
			}
		}
	}
}

func TestVtFeedLeavesTheBytes(t *testing.T) {
	for _, v := range append(someVts()[:30], wrongVts()[:5]...) {
		for _, text := range textsThatAreCut() {
			b, whole := roomy([]byte(text))
			before := bytes.Clone(whole)
			out := impl.VtFeed(v, b)
			want := cloneVt(out)
			if !bytes.Equal(whole, before) {
				t.Fatalf("VtFeed changes %q", text)
			}
			spoilVt(impl.VtFeed(v, b))
			if !bytes.Equal(whole, before) {
				t.Fatalf("the answer of VtFeed shares memory with %q", text)
			}
			spoil(b)
			if !sameVt(out, want) {
				t.Fatalf("a change of %q changes the answer of VtFeed", text)
			}
		}
	}
}

func TestWhatIsAskedOfATerminalLeavesIt(t *testing.T) {
	for _, given := range append(someVts(), wrongVts()...) {
		v, left := roomyVt(given)
		if impl.VtOk(v) != impl.VtOk(v) || impl.RuneBegin(v.Part) != impl.RuneBegin(v.Part) {
			t.Errorf("what is asked of %s is answered in two ways", brief(given))
		}
		if !left() {
			t.Errorf("what is asked of %s changes it", brief(given))
		}
	}
}

// Nothing is kept from call to call: a new terminal isn't touched by what is done with another.
func TestVtNewIsNewMemory(t *testing.T) {
	first, _ := impl.VtNew(6, 4)
	want := cloneVt(first)
	second, _ := impl.VtNew(6, 4)
	for _, c := range vtCalls() {
		spoilVt(c.call(second))
	}
	spoilVt(second)
	third, _ := impl.VtNew(6, 4)
	if !sameVt(first, want) || !sameVt(third, want) {
		t.Errorf("VtNew is %s, then %s", brief(first), brief(third))
	}
}

// What is beside a false, and an answer of a terminal that isn't right, is nothing at all.
func TestNothingOfTheTerminalIsWhole(t *testing.T) {
	for _, given := range wrongVts() {
		for _, c := range vtCalls() {
			wantNoVt(t, c.what, given, c.call(given))
		}
	}
	for _, given := range someVts() {
		for _, sides := range sidesOfAllKinds() {
			if out, ok := impl.VtSize(given, sides[0], sides[1]); !ok {
				wantNoVt(t, "VtSize", given, out)
			}
		}
	}
}
