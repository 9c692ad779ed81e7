package tests

import (
	"strconv"
	"testing"

	"loop.example/g00600/impl"
)

// rolledArg is at times none, at times about the edges, and at times too great.
func rolledArg(by *dice) string {
	switch by.roll(8) {
	case 0:
		return ""
	case 1:
		return strconv.Itoa(9990 + by.roll(20))
	case 2:
		return strconv.Itoa(by.roll(1 << 30))
	case 3:
		return "0" + strconv.Itoa(by.roll(9))
	}
	return strconv.Itoa(by.roll(7))
}

func rolledSequence(by *dice) string {
	text := "\x1b[" + rolledArg(by)
	for by.roll(3) == 0 {
		text += ";" + rolledArg(by)
	}
	switch by.roll(8) {
	case 0:
		return text
	case 1:
		return text + string([]byte{byte(by.roll(256))})
	}
	return text + pick(by, []string{"A", "B", "C", "D", "H", "J", "K", "m", "J", "K", "H"})
}

// rolledText is a rune, a part of one, a control, a sequence or any bytes.
func rolledText(by *dice) string {
	switch by.roll(16) {
	case 0:
		return string(someBytes(1+by.roll(6), uint32(by.roll(1<<30))))
	case 1, 2:
		return pick(by, []string{"\a", "\b", "\n", "\r", "\r\n", "\x1b", "\t", "\x7f"})
	case 3, 4, 5, 6:
		return rolledSequence(by)
	case 7:
		whole := bytesOfRune(rolledRune(by))
		return string(whole[:by.roll(len(whole)+1)])
	case 8:
		return pick(by, formsThatAreNoRune())
	}
	return string(bytesOfRune(rolledRune(by)))
}

// wantRightVt asks for what holds of every terminal that bytes have made.
func wantRightVt(t *testing.T, text string, before impl.Vt, after impl.Vt) {
	t.Helper()
	if !impl.VtOk(after) || !modelVt(after) {
		t.Fatalf("behind %q the terminal %s isn't right: %s", text, brief(before), brief(after))
	}
	if after.Bells < before.Bells || after.Bells > before.Bells+len(text) {
		t.Fatalf("behind %q there are %d bells; %d before", text, after.Bells, before.Bells)
	}
	wantAllRight(t, strconv.Quote(text), before.Grid, after.Grid)
}

// seeByte counts what a byte met.
func seeByte(met map[string]int, before impl.Vt, b byte, after impl.Vt) {
	met["State "+strconv.Itoa(before.State)]++
	if len(before.Part) > 0 && len(after.Part) == 0 && sameGrid(before.Grid, after.Grid) {
		met["a broken rune"]++
	}
	if len(before.Part) > 0 && len(after.Part) == 0 && b >= 128 && !sameGrid(before.Grid, after.Grid) {
		met["a rune of some bytes"]++
	}
	if len(after.Args) == 4 {
		met["four arguments"]++
	}
	if after.Bells > before.Bells {
		met["a bell"]++
	}
	if before.Grid.Wrap && !after.Grid.Wrap {
		met["no Wrap any more"]++
	}
	if before.State == impl.VtCsi && after.State == impl.VtPlain && !sameGrid(before.Grid, after.Grid) {
		met["a known sequence"]++
		if before.Grid.Wrap && after.Grid.Wrap {
			met["erased with Wrap"]++
		}
	}
}

// wantRightBytes feeds a text byte by byte and in one go.
func wantRightBytes(t *testing.T, now impl.Vt, text string, met map[string]int) impl.Vt {
	t.Helper()
	whole := impl.VtFeed(now, []byte(text))
	for i := range len(text) {
		next := impl.VtByte(now, int(text[i]))
		wantRightVt(t, text[i:i+1], now, next)
		if want := modelByte(now, int(text[i])); !sameVt(next, want) {
			t.Fatalf("VtByte %d of %s\nis %s\nwant %s", text[i], brief(now), brief(next), brief(want))
		}
		seeByte(met, now, text[i], next)
		now = next
	}
	if !sameVt(whole, now) {
		t.Fatalf("VtFeed %q is %s\nbyte by byte it is %s", text, brief(whole), brief(now))
	}
	return now
}

func wantRightRow(t *testing.T, w int, h int, texts int, by *dice, met map[string]int) {
	t.Helper()
	now, ok := impl.VtNew(w, h)
	if !ok {
		t.Fatalf("VtNew(%d, %d) is false", w, h)
	}
	for range texts {
		now = wantRightBytes(t, now, rolledText(by), met)
	}
}

func TestP10ATerminalStaysRight(t *testing.T) {
	by := dice(49979687)
	met := map[string]int{}
	for w := 2; w <= 9; w++ {
		for h := 1; h <= 4; h++ {
			wantRightRow(t, w, h, 2500, &by, met)
		}
	}
	for _, sides := range [][2]int{{200, 1}, {2, 200}, {20, 10}} {
		wantRightRow(t, sides[0], sides[1], 150, &by, met)
	}
	for _, sides := range [][2]int{{200, 40}, {40, 200}} {
		wantRightRow(t, sides[0], sides[1], 20, &by, met)
	}
	wantMet(t, met, 200, "State 0", "State 1", "State 2", "a broken rune", "a rune of some bytes", "four arguments", "a bell", "no Wrap any more", "a known sequence", "erased with Wrap")
}

// Bytes of which each is as likely as any other.
func TestP10OfAnyBytes(t *testing.T) {
	for seed := range uint32(40) {
		met := map[string]int{}
		v, _ := impl.VtNew(2+int(seed)%7, 1+int(seed)%4)
		wantRightBytes(t, v, string(someBytes(2000, seed*77+5)), met)
		for _, v := range someVts()[:26] {
			wantRightBytes(t, v, string(someBytes(40, seed*1001+9)), met)
		}
	}
}

// A long row of bytes comes in rolled parts.
func TestP10InParts(t *testing.T) {
	by := dice(122949823)
	for range 150 {
		v, _ := impl.VtNew(2+by.roll(8), 1+by.roll(5))
		text := ""
		for range 60 {
			text += rolledText(&by)
		}
		whole := impl.VtFeed(v, []byte(text))
		wantRightVt(t, text, v, whole)
		if want := modelFed(v, text); !sameVt(whole, want) {
			t.Fatalf("VtFeed %q of %s\nis %s\nwant %s", text, brief(v), brief(whole), brief(want))
		}
		now := v
		for rest := text; rest != ""; {
			n := min(by.roll(9), len(rest))
			now = impl.VtFeed(now, []byte(rest[:n]))
			rest = rest[n:]
		}
		if !sameVt(now, whole) {
			t.Fatalf("VtFeed %q in parts is %s\nwant %s", text, brief(now), brief(whole))
		}
	}
}

// Every row of five of these bytes, from a small terminal.
func TestP10OfAllShortRowsOfBytes(t *testing.T) {
	for _, signs := range []string{"a\x1b[2;JK", "\x1b[13;9ABCH", "\xe4\xb8\xad\xc3\xa9a\b", "\xf0\x9f\x98\x80\n\xff", "a\xe4\b\n\r\a\x1b["} {
		v := vtOf(cursorAt(gridOf(3, "a中", "中b"), 1, 1))
		wantRightBehindBytes(t, v, signs, 5)
	}
}

func wantRightBehindBytes(t *testing.T, now impl.Vt, signs string, most int) {
	t.Helper()
	if most == 0 {
		return
	}
	for i := range len(signs) {
		next := impl.VtByte(now, int(signs[i]))
		wantRightVt(t, signs[i:i+1], now, next)
		if want := modelByte(now, int(signs[i])); !sameVt(next, want) {
			t.Fatalf("VtByte %d of %s\nis %s\nwant %s", signs[i], brief(now), brief(next), brief(want))
		}
		wantRightBehindBytes(t, next, signs, most-1)
	}
}

// What is typed fills the rows as it does by GridPut alone.
func TestP10OfALongTextFed(t *testing.T) {
	by := dice(67867967)
	for _, sides := range [][2]int{{2, 1}, {3, 2}, {5, 4}, {16, 3}} {
		v, _ := impl.VtNew(sides[0], sides[1])
		g := v.Grid
		text := ""
		for range 500 {
			r := rolledRune(&by)
			if isRune(r) && modelWidth(r) > 0 {
				text += string(bytesOfRune(r))
				g = impl.GridPut(g, r)
			}
		}
		wantVt(t, "VtFeed of a long text", v, impl.VtFeed(v, []byte(text)), vtOf(g))
	}
}

// A new size gives a right terminal in the midst of anything, and bytes go on from there.
func TestP10OfNewSizes(t *testing.T) {
	by := dice(32452843)
	met := map[string]int{}
	now, _ := impl.VtNew(4, 2)
	for range 1500 {
		now = wantRightBytes(t, now, rolledText(&by), met)
		if by.roll(4) > 0 {
			continue
		}
		w, h := by.roll(12), by.roll(6)
		next, ok := impl.VtSize(now, w, h)
		want, wantOk := modelSized(now, w, h)
		if ok != wantOk || !sameVt(next, want) {
			t.Fatalf("VtSize(%d, %d) of %s is %s, %v", w, h, brief(now), brief(next), ok)
		}
		if ok {
			now = next
		}
	}
}
