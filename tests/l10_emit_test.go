package tests

import (
	"slices"
	"strings"
	"testing"

	"loop.example/g00600/impl"
)

func TestConstantsOfWhatIsSent(t *testing.T) {
	if impl.ClearText != "\x1b[H\x1b[2J" || impl.TailText != "\x1b[K" {
		t.Error("the constants of chapter 11 are others")
	}
}

func wantGoto(t *testing.T, x int, y int, want string) {
	t.Helper()
	if modelGoto(x, y) != want {
		t.Fatalf("EmitGoto(%d, %d): the test itself is wrong: %q; by the model %q", x, y, want, modelGoto(x, y))
	}
	if got := impl.EmitGoto(x, y); string(got) != want {
		t.Errorf("EmitGoto(%d, %d) = %q; want %q", x, y, got, want)
	}
}

func TestEmitGotoAtTheEdges(t *testing.T) {
	texts := map[int]string{0: "1", 1: "2", 7: "8", 8: "9", 9: "10", 10: "11", 98: "99", 99: "100", 100: "101", impl.MaxSide - 2: "199", impl.MaxSide - 1: "200"}
	for x, column := range texts {
		for y, row := range texts {
			wantGoto(t, x, y, "\x1b["+row+";"+column+"H")
		}
	}
	wantGoto(t, 2, 0, "\x1b[1;3H")
	wantGoto(t, 0, 2, "\x1b[3;1H")
}

func TestEmitGotoOfNoPlace(t *testing.T) {
	const top = int(^uint(0) >> 1)
	none := []int{-top - 1, -1<<32 + 5, -1 << 32, -200, -2, -1, impl.MaxSide, impl.MaxSide + 1, 255, 256, 1<<32 - 1, 1 << 32, 1<<32 + 5, 1 << 62, top - 1, top}
	for _, far := range none {
		for _, near := range append(none, 0, 1, 9, 99, impl.MaxSide-1) {
			wantGoto(t, far, near, "")
			wantGoto(t, near, far, "")
		}
	}
}

func TestEmitGotoEverywhere(t *testing.T) {
	for x := -3; x < impl.MaxSide+3; x++ {
		for y := -3; y < impl.MaxSide+3; y++ {
			got := string(impl.EmitGoto(x, y))
			if got != modelGoto(x, y) {
				t.Fatalf("EmitGoto(%d, %d) = %q; want %q", x, y, got, modelGoto(x, y))
			}
		}
	}
}

func wantSent(t *testing.T, want string, l ...int) {
	t.Helper()
	if modelEmitted(l) != want {
		t.Fatalf("EmitRunes(%v): the test itself is wrong: %q; by the model %q", l, want, modelEmitted(l))
	}
	if got := impl.EmitRunes(l); string(got) != want {
		t.Errorf("EmitRunes(%v) = %q; want %q", l, got, want)
	}
}

func TestEmitRunes(t *testing.T) {
	wantSent(t, "")
	if len(impl.EmitRunes(nil)) != 0 || len(impl.EmitRunes([]int{})) != 0 {
		t.Error("of no rune something is sent")
	}
	wantSent(t, "a", 'a')
	wantSent(t, " ", ' ')
	wantSent(t, "  ", ' ', ' ')
	wantSent(t, "~", '~')
	wantSent(t, "\xc2\xa0", 160)
	wantSent(t, "\xc3\xa9", 233)
	wantSent(t, "\xdf\xbf", 2047)
	wantSent(t, "\xe0\xa0\x80", 2048)
	wantSent(t, "\xe4\xb8\xad", wide)
	wantSent(t, "\xed\x9f\xbf", 55295)
	wantSent(t, "\xee\x80\x80", 57344)
	wantSent(t, "\xef\xbf\xbd", 65533)
	wantSent(t, "\xef\xbf\xbf", 65535)
	wantSent(t, "\xf0\x90\x80\x80", 65536)
	wantSent(t, "\xf0\x9f\x98\x80", 128512)
	wantSent(t, "\xf4\x8f\xbf\xbf", impl.MaxRune)
	wantSent(t, "a\xc3\xa9\xe4\xb8\xad\xf0\x9f\x98\x80b", 'a', 233, wide, 128512, 'b')
	wantSent(t, "ab ab", 'a', 'b', ' ', 'a', 'b')
}

func TestEmitRunesOfWhatIsNotPrintable(t *testing.T) {
	none := append(farInts(), impl.Half, impl.MaxRune+1, 127, 55296, 56319, 56320, 57343)
	for r := range 32 {
		none = append(none, r)
	}
	for r := 128; r < 160; r++ {
		none = append(none, r)
	}
	for _, r := range none {
		wantSent(t, "", r)
		wantSent(t, "", r, r)
		wantSent(t, "ab", 'a', r, 'b')
		wantSent(t, "\xe4\xb8\xad\xc3\xa9", r, wide, r, r, 233, r)
	}
	wantSent(t, "", none...)
	wantSent(t, "[2J", 27, '[', '2', 'J')
	wantSent(t, "\xe4\xb8\xad\xe4\xb8\xad", wide, impl.Half, wide, impl.Half)
}

func TestEmitRunesOfEachRune(t *testing.T) {
	for r := -200; r < impl.MaxRune+200; r++ {
		want := ""
		if modelShown(r) {
			want = string(bytesOfRune(r))
		}
		if got := impl.EmitRunes([]int{r}); string(got) != want {
			t.Fatalf("EmitRunes of %d is %q; want %q", r, got, want)
		}
	}
}

func TestEmitRunesOfLists(t *testing.T) {
	all := append(runeEdges(), farInts()...)
	for i := range all {
		wantSent(t, modelEmitted(all[i:]), all[i:]...)
	}
	by := dice(86028121)
	for range 2000 {
		var l []int
		for range by.roll(12) {
			l = append(l, rolledRune(&by))
		}
		wantSent(t, modelEmitted(l), l...)
	}
}

// Nothing bounds the list.
func TestEmitRunesOfMany(t *testing.T) {
	l := slices.Repeat([]int{wide, 7, 'a'}, impl.MaxBytes)
	if string(impl.EmitRunes(l)) != strings.Repeat("\xe4\xb8\xada", impl.MaxBytes) {
		t.Error("of many runes something else is sent")
	}
}
