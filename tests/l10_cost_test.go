package tests

import (
	"slices"
	"strings"
	"testing"

	"loop.example/g00600/impl"
)

func wantCost(t *testing.T, want int, l ...string) {
	t.Helper()
	for _, text := range l {
		if modelCost(text) != want {
			t.Fatalf("EmitCost of %q: the test itself is wrong: %d; by the model %d", text, want, modelCost(text))
		}
		if got := impl.EmitCost([]byte(text)); got != want {
			t.Errorf("EmitCost of %q is %d; want %d", text, got, want)
		}
	}
}

func TestEmitCostOfBytesAlone(t *testing.T) {
	wantCost(t, 0, "")
	if impl.EmitCost(nil) != 0 || impl.EmitCost([]byte{}) != 0 {
		t.Error("no byte has a cost")
	}
	wantCost(t, 1, "a", " ", "\x00", "\x07", "\x08", "\x0d", "\x1a", "\x1c", "[", "0", "9", ";", "H", "\x7f", "\x80", "\x9b", "\xff")
	wantCost(t, 2, "ab", "\r\n", "\b\b", "[H", "\xc3\xa9")
	wantCost(t, 3, "[2J", "1;2", "\xe4\xb8\xad", "[[[")
	wantCost(t, 4, "[1;H", "\xf0\x9f\x98\x80")
	for b := range 256 {
		if b != 27 {
			wantCost(t, 1, string([]byte{byte(b)}))
			wantCost(t, 3, "a"+string([]byte{byte(b)})+"b")
		}
	}
}

func TestEmitCostOfWholeSequences(t *testing.T) {
	wantCost(t, 0, "\x1b[H", "\x1b[K", "\x1b[C", "\x1b[J", "\x1b[2J", "\x1b[3C", "\x1b[12;34H", "\x1b[;H", "\x1b[;;;;H", "\x1b[1;2;3;4;5;6m", "\x1b[0000000000000000000000000099999999999H")
	wantCost(t, 0, impl.ClearText, impl.TailText, impl.TailText+impl.ClearText)
	wantCost(t, 1, "a\x1b[H", "\x1b[Ha", "\r\x1b[12C", "\x1b[1D\b")
	wantCost(t, 2, "a\x1b[2;3Hb", "\x1b[H\xc3\xa9", "\x1b[HHH", "\x1b[H[H", "\x1b[2J2J", "\x1b[H;1")
	wantCost(t, 4, "ab\x1b[2;3Hc\r")
}

func TestEmitCostOfTwoSequencesOnEnd(t *testing.T) {
	wantCost(t, 0, "\x1b[H\x1b[2J", "\x1b[H\x1b[H\x1b[H", "\x1b[1;2H\x1b[", "\x1b[K\x1b", "\x1b[1\x1b\x1b[K")
	wantCost(t, 1, "\x1b[H\x1b[2Jx", "x\x1b[H\x1b[2J", "\x1b[Hx\x1b[2J")
}

func TestEmitCostOfAnEscapeAlone(t *testing.T) {
	wantCost(t, 0, "\x1b", "\x1b\x1b", "\x1b\x1b\x1b", "\x1b\x1b[H", "\x1b\x1b\x1b[12;3H", "\x1b\x1b[", "\x1b\x1b[1")
	wantCost(t, 1, "\x1bx", "\x1bH", "\x1b1", "\x1b;", "\x1bO", "a\x1b", "\x1b\x1bx", "\x1bx\x1b", "\x1b\x00", "\x1b\xff")
	wantCost(t, 2, "\x1bxy", "\x1b1H", "\x1bOA", "a\x1bb", "\x1b;H")
	wantCost(t, 3, "\x1bx[H", "\x1b]0;", "abc\x1b")
	for b := range 256 {
		if b != '[' && b != 27 {
			wantCost(t, 2, "\x1b"+string([]byte{byte(b)})+"x")
		}
	}
}

func TestEmitCostOfSequencesThatAreCutOff(t *testing.T) {
	wantCost(t, 0, "\x1b[", "\x1b[1", "\x1b[;", "\x1b[12", "\x1b[12;", "\x1b[12;3", "\x1b[;;;;;;;")
	wantCost(t, 1, "a\x1b[12", "\r\x1b[", "a\x1b[H\x1b[1;")
	whole := "ab\x1b[12;34Hc"
	for n, want := range []int{0, 1, 2, 2, 2, 2, 2, 2, 2, 2, 2, 3} {
		wantCost(t, want, whole[:n])
	}
}

// Whatever stands behind the arguments is the last byte of the sequence.
func TestEmitCostOfEachFurtherByte(t *testing.T) {
	wantCost(t, 0, "\x1b[1\x1b", "\x1b[\x1b", "\x1b[1\x80", "\x1b[1\xff", "\x1b[1\x00", "\x1b[1\n", "\x1b[1\a", "\x1b[1\x7f", "\x1b[1 ", "\x1b[[", "\x1b[1?", "\x1b[1/", "\x1b[1:", "\x1b[1<")
	wantCost(t, 1, "\x1b[1\xc3\xa9", "\x1b[??", "\x1b[[H", "\x1b[\x1bH", "\x1b[ 1")
	wantCost(t, 2, "\x1b[1\x1b[H", "\x1b[\x1b[H", "\x1b[2\xe4\xb8\xad", "\x1b[?1h")
	for _, head := range []string{"\x1b[", "\x1b[1", "\x1b[;", "\x1b[12;3"} {
		for b := range 256 {
			if b >= '0' && b <= '9' || b == ';' {
				wantCost(t, 0, head+string([]byte{byte(b)})+"x")
				continue
			}
			wantCost(t, 0, head+string([]byte{byte(b)}))
			wantCost(t, 1, head+string([]byte{byte(b)})+"x", head+string([]byte{byte(b)})+"7")
			wantCost(t, 0, head+string([]byte{byte(b)})+"\x1b[K")
		}
	}
}

func TestEmitCostOfAllShortBytes(t *testing.T) {
	for _, text := range textsOver("\x1b[1;H\xe4\r", 5) {
		if got := impl.EmitCost([]byte(text)); got != modelCost(text) {
			t.Fatalf("EmitCost of %q is %d; want %d", text, got, modelCost(text))
		}
	}
	for a := range 256 {
		for b := range 256 {
			text := string([]byte{27, byte(a), byte(b), '1'})
			for from := range 2 {
				if got := impl.EmitCost([]byte(text[from:])); got != modelCost(text[from:]) {
					t.Fatalf("EmitCost of %q is %d; want %d", text[from:], got, modelCost(text[from:]))
				}
			}
		}
	}
}

func TestEmitCostOfRolledBytes(t *testing.T) {
	by := dice(15485863)
	for range 4000 {
		text := ""
		for range by.roll(8) {
			text += rolledText(&by)
		}
		wantCost(t, modelCost(text), text)
	}
	for seed := range uint32(200) {
		text := string(someBytes(300, seed))
		wantCost(t, modelCost(text), text)
	}
}

func TestEmitCostOfMany(t *testing.T) {
	const n = 2 * impl.MaxBytes
	much := slices.Concat([]byte("\x1b["), []byte(strings.Repeat("1;", n)), []byte("H"), []byte(strings.Repeat("a\x1b", n)))
	if got := impl.EmitCost(much); got != n {
		t.Errorf("EmitCost of many bytes is %d; want %d", got, n)
	}
}
