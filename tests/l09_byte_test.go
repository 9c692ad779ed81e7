package tests

import (
	"strconv"
	"strings"
	"testing"

	"loop.example/g00600/impl"
)

func wantVt(t *testing.T, what string, given impl.Vt, got impl.Vt, want impl.Vt) {
	t.Helper()
	if !sameVt(got, want) || !impl.VtOk(got) {
		t.Errorf("%s of %s\nis %s\nwant %s", what, brief(given), brief(got), brief(want))
	}
}

func wantNoVt(t *testing.T, what string, given impl.Vt, got impl.Vt) {
	t.Helper()
	if !sameVt(got, impl.Vt{}) {
		t.Errorf("%s of %s is %s", what, brief(given), brief(got))
	}
}

func byBytes(v impl.Vt, text string) impl.Vt {
	for i := range len(text) {
		v = impl.VtByte(v, int(text[i]))
	}
	return v
}

// wantFed asks for the terminal behind those bytes: in one go, in all parts of two, and byte by byte.
func wantFed(t *testing.T, given impl.Vt, text string, want impl.Vt) impl.Vt {
	t.Helper()
	if !sameVt(modelFed(given, text), want) {
		t.Fatalf("%q: the test itself is wrong: %s; by the model %s", text, brief(want), brief(modelFed(given, text)))
	}
	whole := impl.VtFeed(given, []byte(text))
	wantVt(t, "VtFeed "+strconv.Quote(text), given, whole, want)
	wantVt(t, "VtByte "+strconv.Quote(text), given, byBytes(impl.VtFeed(given, nil), text), want)
	for at := range len(text) + 1 {
		part := impl.VtFeed(given, []byte(text[:at]))
		wantVt(t, "VtFeed in parts "+strconv.Quote(text[:at]), given, impl.VtFeed(part, []byte(text[at:])), want)
	}
	return whole
}

// wantScreen asks for a terminal that waits for nothing, with that cursor and those rows, and as many bells as before.
func wantScreen(t *testing.T, given impl.Vt, text string, x int, y int, wrap bool, rows ...string) impl.Vt {
	t.Helper()
	want := withBells(vtOf(cursorAt(gridOf(given.Grid.W, rows...), x, y)), given.Bells)
	want.Grid.Wrap = wrap
	return wantFed(t, given, text, want)
}

// wantLeftAlone asks for the same screen and bells, and a terminal that waits for nothing.
func wantLeftAlone(t *testing.T, given impl.Vt, text string) {
	t.Helper()
	wantFed(t, given, text, withBells(vtOf(given.Grid), given.Bells))
}

func TestVtByteOfNoByte(t *testing.T) {
	const top = int(^uint(0) >> 1)
	none := []int{-top - 1, -1 << 32, -1<<32 + 'a', -256 + 'a', -256, -159, -2, -1, 256, 257, 256 + 7, 256 + 27, 256 + 'a', 512, 1<<32 + 'a', 1 << 62, top}
	for _, v := range someVts() {
		for _, b := range none {
			wantVt(t, "VtByte "+strconv.Itoa(b), v, impl.VtByte(v, b), v)
		}
	}
	for _, v := range wrongVts() {
		for _, b := range append(none, 0, 7, 27, 'a', '[', 195, 255) {
			wantNoVt(t, "VtByte "+strconv.Itoa(b), v, impl.VtByte(v, b))
		}
	}
}

func TestVtByteOfEachByteInEachState(t *testing.T) {
	for _, v := range someVts() {
		for b := range 256 {
			wantVt(t, "VtByte "+strconv.Itoa(b), v, impl.VtByte(v, b), modelByte(v, b))
		}
	}
}

func TestVtPlainOfRunes(t *testing.T) {
	v := vtOf(gridOf(5, "", ""))
	v = wantScreen(t, v, "a", 1, 0, false, "a", "")
	v = wantScreen(t, v, "é", 2, 0, false, "aé", "")
	v = wantScreen(t, v, "中", 4, 0, false, "aé中", "")
	v = wantScreen(t, v, "😀", 2, 1, false, "aé中", "😀")
	v = wantScreen(t, v, "\u0800", 3, 1, false, "aé中", "😀\u0800")
	v = wantScreen(t, v, "\U0010ffff", 4, 1, false, "aé中", "😀\u0800\U0010ffff")
	v = wantScreen(t, v, "~", 4, 1, true, "aé中", "😀\u0800\U0010ffff~")
	v = wantScreen(t, v, "é", 1, 1, false, "😀\u0800\U0010ffff~", "é")
	v = wantScreen(t, v, "中字", 4, 1, true, "😀\u0800\U0010ffff~", "é中字")
	wantScreen(t, v, " ", 1, 1, false, "é中字", "")
	wantScreen(t, v, "x中中字", 2, 1, false, "x中中", "字")
	wantScreen(t, vtOf(gridOf(4, "")), "a\ue000\u00a0\ufffd", 3, 0, true, "a\ue000\u00a0\ufffd")
}

// Runes of no width are read whole, and nothing is put.
func TestVtPlainOfRunesWithoutWidth(t *testing.T) {
	for _, v := range []impl.Vt{someVt(), vtOf(wrappedIn(someGrid(), 3)), inRune(someVt(), "")} {
		for _, r := range []string{"\u0080", "\u0085", "\u009b", "\u009f"} {
			wantLeftAlone(t, v, r)
			wantLeftAlone(t, v, r+r)
		}
	}
	wantScreen(t, vtOf(gridOf(4, "")), "\u009b2Ja", 3, 0, false, "2Ja")
}

func wantPart(t *testing.T, given impl.Vt, text string, part string) {
	t.Helper()
	wantFed(t, given, text, inRune(withBells(vtOf(given.Grid), given.Bells), part))
}

func TestVtPlainGathersRunes(t *testing.T) {
	v := someVt()
	wantPart(t, v, "\xc3", "\xc3")
	wantPart(t, v, "\xe4", "\xe4")
	wantPart(t, v, "\xe4\xb8", "\xe4\xb8")
	wantPart(t, v, "\xf0", "\xf0")
	wantPart(t, v, "\xf0\x9f", "\xf0\x9f")
	wantPart(t, v, "\xf0\x9f\x98", "\xf0\x9f\x98")
	wantPart(t, inRune(v, "\xf4"), "\x8f", "\xf4\x8f")
	wantPart(t, inRune(v, "\xf4\x8f"), "\xbf", "\xf4\x8f\xbf")
	wantScreen(t, inRune(v, "\xc3"), "\xa9", 3, 1, false, "a中 b", "中éd中", "", " e 字f")
	wantScreen(t, inRune(v, "\xe4\xb8"), "\xad", 4, 1, false, "a中 b", "中中中", "", " e 字f")
	wantScreen(t, inRune(v, "\xf0"), "\x9f\x98\x80", 4, 1, false, "a中 b", "中😀中", "", " e 字f")
}

// A byte that breaks a part off is lost with it, even if it could begin a rune itself.
func TestVtPlainOfBrokenRunes(t *testing.T) {
	for _, v := range []impl.Vt{someVt(), vtOf(wrappedIn(someGrid(), 3))} {
		for _, text := range []string{
			"\x80", "\xbf", "\xc0", "\xc1", "\xf5", "\xf8", "\xfe", "\xff", "\x80\x80", "\xff\xff", "\xff\x80", "\xc0\x80", "\xc1\xbf",
			"\xc3\xc3", "\xc3\xff", "\xe4\xc3", "\xe4\xe4", "\xe4\xb8\xe4", "\xe4\xb8\xff", "\xf0\xf0", "\xf0\x9f\xf0", "\xf0\x9f\x98\xf0", "\xf0\x9f\x98\xc3",
			"\xe0\x80", "\xe0\x9f", "\xe0\x9f\xbf", "\xed\xa0", "\xed\xa0\x80", "\xed\xbf\xbf", "\xf0\x80", "\xf0\x8f\xbf\xbf", "\xf4\x90", "\xf4\x90\x80\x80", "\xf7\xbf\xbf\xbf",
			"\xc3\xc3\xa9", "\xe4\xe4\xb8\xad", "\xe4\xb8\xe4\xb8\xad",
		} {
			wantLeftAlone(t, v, text)
		}
	}
	wantPart(t, someVt(), "\xc3\xc3\xc3", "\xc3")
	wantPart(t, someVt(), "\xff\xe4\xb8", "\xe4\xb8")
	wantPart(t, someVt(), "\x80\xf0", "\xf0")
	v := vtOf(gridOf(5, ""))
	wantScreen(t, v, "\xc3\xc3é", 1, 0, false, "é")
	wantScreen(t, v, "\xe4\xb8\xe4é", 1, 0, false, "é")
	wantScreen(t, v, "\xffa", 1, 0, false, "a")
	wantScreen(t, v, "a\xffb\x80c", 3, 0, false, "abc")
}

func TestVtPlainOfAByteBehindAPart(t *testing.T) {
	for _, part := range []string{"\xc3", "\xe4", "\xe4\xb8", "\xf0\x9f\x98"} {
		v := inRune(vtOf(cursorAt(gridOf(5, "ab中", "cde"), 2, 0)), part)
		wantScreen(t, v, "x", 3, 0, false, "abx", "cde")
		wantScreen(t, v, "x\xa9", 3, 0, false, "abx", "cde")
		wantScreen(t, v, " ", 3, 0, false, "ab", "cde")
		wantScreen(t, v, "\b", 1, 0, false, "ab中", "cde")
		wantScreen(t, v, "\r", 0, 0, false, "ab中", "cde")
		wantScreen(t, v, "\n", 2, 1, false, "ab中", "cde")
		wantFed(t, v, "\a", withBells(vtOf(v.Grid), 1))
		wantFed(t, v, "\x1b", inEscape(vtOf(v.Grid)))
		wantFed(t, v, "\x1b[", inSequence(vtOf(v.Grid)))
		for _, b := range []string{"\x00", "\x01", "\t", "\v", "\f", "\x0e", "\x1a", "\x1c", "\x1f", "\x7f"} {
			wantLeftAlone(t, v, b)
		}
	}
}

func TestVtPlainOfBells(t *testing.T) {
	for given, want := range map[int]int{0: 1, 1: 2, 2: 3, 999998: 999999, 999999: 1000000, 1000000: 1000000} {
		for _, g := range []impl.Grid{someGrid(), wrappedIn(someGrid(), 3)} {
			wantFed(t, withBells(vtOf(g), given), "\a", withBells(vtOf(g), want))
		}
	}
	wantFed(t, withBells(someVt(), 999998), "\a\a\a\a", withBells(someVt(), 1000000))
	wantFed(t, someVt(), strings.Repeat("\a", 40), withBells(someVt(), 42))
	// No other byte rings, and none takes a bell away.
	wantFed(t, someVt(), "\x1b[2K\x1b[7m\x1b\a\x1b[\a\r\x00\x08\xff\xc3", inRune(withBells(vtOf(cursorAt(gridOf(6, "a中 b", "", "", " e 字f"), 0, 1)), 2), "\xc3"))
}

func TestVtPlainOfTheWayBack(t *testing.T) {
	rows := []string{"a中 b", "中cd中", "", " e 字f"}
	wantScreen(t, vtOf(cursorAt(someGrid(), 0, 0)), "\b", 0, 0, false, rows...)
	wantScreen(t, vtOf(cursorAt(someGrid(), 0, 2)), "\b\b", 0, 2, false, rows...)
	wantScreen(t, vtOf(cursorAt(someGrid(), 1, 3)), "\b", 0, 3, false, rows...)
	wantScreen(t, vtOf(cursorAt(someGrid(), 2, 1)), "\b", 1, 1, false, rows...)
	wantScreen(t, vtOf(cursorAt(someGrid(), 5, 1)), "\b", 4, 1, false, rows...)
	wantScreen(t, vtOf(cursorAt(someGrid(), 5, 1)), "\b\b\b\b\b\b\b", 0, 1, false, rows...)
	wantScreen(t, vtOf(wrappedIn(someGrid(), 1)), "\b", 4, 1, false, rows...)
	wantScreen(t, vtOf(wrappedIn(gridOf(2, "ab"), 0)), "\b", 0, 0, false, "ab")
	wantScreen(t, vtOf(wrappedIn(gridOf(2, "ab"), 0)), "\bx", 1, 0, false, "xb")
}

func TestVtPlainOfTheWayDown(t *testing.T) {
	rows := []string{"a中 b", "中cd中", "", " e 字f"}
	up := []string{"中cd中", "", " e 字f", ""}
	for x := range 6 {
		wantScreen(t, vtOf(cursorAt(someGrid(), x, 0)), "\n", x, 1, false, rows...)
		wantScreen(t, vtOf(cursorAt(someGrid(), x, 2)), "\n", x, 3, false, rows...)
		wantScreen(t, vtOf(cursorAt(someGrid(), x, 3)), "\n", x, 3, false, up...)
		wantScreen(t, vtOf(cursorAt(someGrid(), x, 2)), "\n\n\n\n", x, 3, false, " e 字f", "", "", "")
	}
	wantScreen(t, vtOf(wrappedIn(someGrid(), 0)), "\n", 5, 1, false, rows...)
	wantScreen(t, vtOf(wrappedIn(someGrid(), 2)), "\n", 5, 3, false, rows...)
	wantScreen(t, vtOf(wrappedIn(someGrid(), 3)), "\n", 5, 3, false, up...)
	wantScreen(t, vtOf(wrappedIn(gridOf(2, "ab"), 0)), "\n", 1, 0, false, "")
	wantScreen(t, vtOf(gridOf(2, "中")), "\n", 0, 0, false, "")
}

func TestVtPlainOfTheWayToTheLeft(t *testing.T) {
	rows := []string{"a中 b", "中cd中", "", " e 字f"}
	for y := range 4 {
		for x := range 6 {
			wantScreen(t, vtOf(cursorAt(someGrid(), x, y)), "\r", 0, y, false, rows...)
		}
		wantScreen(t, vtOf(wrappedIn(someGrid(), y)), "\r", 0, y, false, rows...)
		wantScreen(t, vtOf(wrappedIn(someGrid(), y)), "\r\r", 0, y, false, rows...)
	}
	wantScreen(t, vtOf(gridOf(3, "", "")), "ab\r\ncd\re", 1, 1, false, "ab", "ed")
	wantScreen(t, vtOf(gridOf(3, "", "")), "abc\r\ndef\r\n", 0, 1, false, "def", "")
}

func TestVtPlainOfOtherControls(t *testing.T) {
	for _, v := range []impl.Vt{someVt(), vtOf(wrappedIn(someGrid(), 3)), vtOf(cursorAt(someGrid(), 5, 3))} {
		for b := range 32 {
			if b != 7 && b != 8 && b != 10 && b != 13 && b != 27 {
				wantLeftAlone(t, v, string([]byte{byte(b)}))
			}
		}
		wantLeftAlone(t, v, "\x7f")
		wantLeftAlone(t, v, "\x7f\x00\x7f")
	}
}

func TestVtPlainOfAllSigns(t *testing.T) {
	for b := 32; b < 127; b++ {
		sign := string([]byte{byte(b)})
		wantScreen(t, vtOf(gridOf(3, "xyz")), sign, 1, 0, false, sign+"yz")
		wantScreen(t, vtOf(wrappedIn(gridOf(3, "xyz"), 0)), sign, 1, 0, false, sign)
	}
}

func TestVtEsc(t *testing.T) {
	for _, v := range []impl.Vt{someVt(), vtOf(wrappedIn(someGrid(), 3)), withBells(someVt(), impl.MaxBells)} {
		wantFed(t, v, "\x1b", inEscape(v))
		wantFed(t, inEscape(v), "[", inSequence(v))
		for b := range 256 {
			if b != '[' {
				wantFed(t, inEscape(v), string([]byte{byte(b)}), v)
			}
		}
	}
	v := vtOf(gridOf(5, ""))
	wantScreen(t, v, "\x1bAb", 1, 0, false, "b")
	wantScreen(t, v, "\x1b\x1b[Ab", 3, 0, false, "[Ab")
	wantScreen(t, v, "\x1b\xc3\xa9a", 1, 0, false, "a")
	wantScreen(t, v, "\x1b\xc3é", 1, 0, false, "é")
	wantScreen(t, v, "a\x1b[[b", 2, 0, false, "ab")
	wantScreen(t, v, "a\x1b\nb", 2, 0, false, "ab")
}
