package tests

import (
	"fmt"
	"strings"
	"testing"

	"loop.example/g00600/impl"
)

// wantDec asks for that decoder and the keys of those texts.
func wantDec(t *testing.T, what string, given impl.Dec, got impl.Dec, keys []impl.Key, want impl.Dec, texts string) {
	t.Helper()
	if !sameDec(got, want) || !impl.DecOk(got) {
		t.Errorf("%s of %s\nis %s\nwant %s", what, brief(given), brief(got), brief(want))
	}
	if textOfKeys(keys) != texts {
		t.Errorf("%s of %s\ngives %s\nwant %s", what, brief(given), textOfKeys(keys), texts)
	}
}

func wantNoDec(t *testing.T, what string, given impl.Dec, got impl.Dec, keys []impl.Key) {
	t.Helper()
	if !sameDec(got, impl.Dec{}) || len(keys) > 0 {
		t.Errorf("%s of %s is %s and gives %v", what, brief(given), brief(got), keys)
	}
}

// wantDecByte asks for the decoder behind a byte, and for the keys that come, told by their texts.
func wantDecByte(t *testing.T, given impl.Dec, b int, want impl.Dec, texts string) {
	t.Helper()
	what := fmt.Sprintf("DecByte %d", b)
	if model, modelTexts := modelDecByte(given, b); !sameDec(model, want) || modelTexts != texts {
		t.Fatalf("%s of %s: the test itself is wrong: %s, %s; by the model %s, %s", what, brief(given), brief(want), texts, brief(model), modelTexts)
	}
	got, keys := impl.DecByte(given, b)
	wantDec(t, what, given, got, keys, want, texts)
	if len(keys) > 2 {
		t.Errorf("%s of %s gives %d keys", what, brief(given), len(keys))
	}
}

// wantDecBytes asks the same of each of some bytes.
func wantDecBytes(t *testing.T, given impl.Dec, bytes string, want impl.Dec, texts string) {
	t.Helper()
	for i := range len(bytes) {
		wantDecByte(t, given, int(bytes[i]), want, texts)
	}
}

// allBut tells the bytes from the first to the last that aren't among those.
func allBut(first int, last int, those string) string {
	var all []byte
	for b := first; b <= last; b++ {
		if strings.IndexByte(those, byte(b)) < 0 {
			all = append(all, byte(b))
		}
	}
	return string(all)
}

// joined puts two texts of keys behind one another; either may be empty.
func joined(a string, b string) string {
	if a == "" || b == "" {
		return a + b
	}
	return a + " " + b
}

func intsThatAreNoByte() []int {
	const top = int(^uint(0) >> 1)
	return []int{-top - 1, -top, -1 << 32, -1<<32 + 27, -256, -256 + 'a', -229, -128, -27, -2, -1, 256, 257, 256 + 27, 256 + '[', 256 + 'a', 512, 1 << 16, 1 << 32, 1<<32 + 27, 1<<32 + 'A', 1 << 62, top - 1, top}
}

func TestDecByteOfNoByte(t *testing.T) {
	for _, d := range append(someDecs(), wrongDecs()...) {
		for _, b := range intsThatAreNoByte() {
			got, keys := impl.DecByte(d, b)
			wantNoDec(t, fmt.Sprintf("DecByte %d", b), d, got, keys)
		}
	}
}

func TestDecByteOfDecodersThatAreNotRight(t *testing.T) {
	for _, d := range wrongDecs() {
		for b := range 256 {
			got, keys := impl.DecByte(d, b)
			wantNoDec(t, fmt.Sprintf("DecByte %d", b), d, got, keys)
		}
	}
}

func TestDecByteOfEachByteInEachState(t *testing.T) {
	for _, d := range someDecs() {
		for b := range 256 {
			want, texts := modelDecByte(d, b)
			wantDecByte(t, d, b, want, texts)
		}
	}
}

func TestDecByteOfPlain(t *testing.T) {
	d := plain("")
	wantDecByte(t, d, 27, inState(impl.DecEsc), "")
	wantDecByte(t, d, 'a', plain(""), "a")
	wantDecByte(t, d, ' ', plain(""), "SPC")
	wantDecByte(t, d, '~', plain(""), "~")
	wantDecByte(t, d, '[', plain(""), "[")
	wantDecByte(t, d, 'O', plain(""), "O")
	wantDecByte(t, d, ';', plain(""), ";")
	wantDecByte(t, d, 1, plain(""), "C-a")
	wantDecByte(t, d, 26, plain(""), "C-z")
	wantDecByte(t, d, 31, plain(""), "C-_")
	wantDecBytes(t, d, "\x08\x7f", plain(""), "BACK")
	wantDecBytes(t, d, "\n\r", plain(""), "ENTER")
	wantDecByte(t, d, 9, plain(""), "TAB")
	wantDecBytes(t, d, "\x00\x1c\x1d\x1e", plain(""), "BAD")
}

// Behind an empty Part a byte begins a rune or is BAD.
func TestDecByteOfPlainFrom128On(t *testing.T) {
	for b := 128; b < 256; b++ {
		if b >= 0xc2 && b <= 0xf4 {
			wantDecByte(t, plain(""), b, plain(string([]byte{byte(b)})), "")
		} else {
			wantDecByte(t, plain(""), b, plain(""), "BAD")
		}
	}
}

// A byte below 128 breaks a part off: BAD comes ahead of what it is itself.
func TestDecByteBelow128BreaksAPart(t *testing.T) {
	for _, part := range partsOfRunes() {
		d := plain(part)
		wantDecByte(t, d, 27, inState(impl.DecEsc), "BAD")
		wantDecByte(t, d, 'a', plain(""), "BAD a")
		wantDecByte(t, d, ' ', plain(""), "BAD SPC")
		wantDecByte(t, d, '[', plain(""), "BAD [")
		wantDecByte(t, d, 5, plain(""), "BAD C-e")
		wantDecByte(t, d, 0, plain(""), "BAD BAD")
		wantDecByte(t, d, 127, plain(""), "BAD BACK")
		wantDecByte(t, d, 10, plain(""), "BAD ENTER")
		for b := range 128 {
			if b != 27 {
				wantDecByte(t, d, b, plain(""), joined("BAD", modelByteText(b)))
			}
		}
	}
}

func TestDecByteMakesARuneWhole(t *testing.T) {
	wantDecByte(t, plain("\xc3"), 0xa9, plain(""), "é")
	wantDecByte(t, plain("\xc2"), 0xa0, plain(""), "\u00a0")
	wantDecByte(t, plain("\xdf"), 0xbf, plain(""), "\u07ff")
	wantDecByte(t, plain("\xe4\xb8"), 0xad, plain(""), "中")
	wantDecByte(t, plain("\xe0\xa0"), 0x80, plain(""), "\u0800")
	wantDecByte(t, plain("\xed\x9f"), 0xbf, plain(""), "\ud7ff")
	wantDecByte(t, plain("\xee\x80"), 0x80, plain(""), "\ue000")
	wantDecByte(t, plain("\xef\xbf"), 0xbd, plain(""), "\ufffd")
	wantDecByte(t, plain("\xf0\x9f\x98"), 0x80, plain(""), "😀")
	wantDecByte(t, plain("\xf0\x90\x80"), 0x80, plain(""), "\U00010000")
	wantDecByte(t, plain("\xf4\x8f\xbf"), 0xbf, plain(""), "\U0010ffff")
}

// From 128 to 159 a rune isn't Printable.
func TestDecByteMakesARuneWholeThatIsNotPrintable(t *testing.T) {
	for b := 128; b < 192; b++ {
		if b <= 159 {
			wantDecByte(t, plain("\xc2"), b, plain(""), "BAD")
		} else {
			wantDecByte(t, plain("\xc2"), b, plain(""), string([]byte{0xc2, byte(b)}))
		}
	}
}

func TestDecByteGoesOnWithARune(t *testing.T) {
	for _, row := range [][2]string{{"\xe4", "\xb8"}, {"\xe0", "\xa0"}, {"\xe0", "\xbf"}, {"\xed", "\x80"}, {"\xed", "\x9f"}, {"\xef", "\xbf"}, {"\xf0", "\x90"}, {"\xf0", "\x9f"}, {"\xf0\x9f", "\x98"}, {"\xf0\x90", "\x80"}, {"\xf4", "\x8f"}, {"\xf4\x8f", "\xbf"}, {"\xf3\xbf", "\xbf"}} {
		wantDecByte(t, plain(row[0]), int(row[1][0]), plain(row[0]+row[1]), "")
	}
}

func TestDecByteBreaksAPartAndBeginsARune(t *testing.T) {
	for _, part := range partsOfRunes() {
		for b := 0xc2; b <= 0xf4; b++ {
			wantDecByte(t, plain(part), b, plain(string([]byte{byte(b)})), "BAD")
		}
	}
}

// One BAD stands for the part and the byte.
func TestDecByteBreaksAPartAndBeginsNone(t *testing.T) {
	for _, part := range partsOfRunes() {
		wantDecBytes(t, plain(part), "\xc0\xc1\xf5\xf6\xf7\xf8\xfb\xfc\xfd\xfe\xff", plain(""), "BAD")
	}
	wantDecBytes(t, plain("\xe0"), "\x80\x81\x9f", plain(""), "BAD")
	wantDecBytes(t, plain("\xed"), "\xa0\xaf\xb0\xbf", plain(""), "BAD")
	wantDecBytes(t, plain("\xf0"), "\x80\x8f", plain(""), "BAD")
	wantDecBytes(t, plain("\xf4"), "\x90\x91\xbf", plain(""), "BAD")
}

func TestDecByteBehindEscape(t *testing.T) {
	d := inState(impl.DecEsc)
	wantDecByte(t, d, '[', csi(""), "")
	wantDecByte(t, d, 'O', inState(impl.DecSs3), "")
	wantDecByte(t, d, 27, inState(impl.DecEsc), "ESC")
	wantDecBytes(t, d, "\x08\x7f", plain(""), "MBACK")
	for b := 33; b <= 126; b++ {
		if b != '[' && b != 'O' {
			wantDecByte(t, d, b, plain(""), "M-"+string([]byte{byte(b)}))
		}
	}
}

// What isn't a key with Meta is one that stands alone, behind ESC.
func TestDecByteBehindEscapeStandsAlone(t *testing.T) {
	d := inState(impl.DecEsc)
	wantDecByte(t, d, ' ', plain(""), "ESC SPC")
	wantDecByte(t, d, 9, plain(""), "ESC TAB")
	wantDecBytes(t, d, "\n\r", plain(""), "ESC ENTER")
	wantDecBytes(t, d, "\x00\x1c\x1d\x1e", plain(""), "ESC BAD")
	wantDecByte(t, d, 31, plain(""), "ESC C-_")
	for i, r := range "abcdefghijklmnopqrstuvwxyz" {
		if !strings.ContainsRune("hijm", r) {
			wantDecByte(t, d, i+1, plain(""), "ESC C-"+string(r))
		}
	}
	for b := 128; b < 256; b++ {
		if b >= 0xc2 && b <= 0xf4 {
			wantDecByte(t, d, b, plain(string([]byte{byte(b)})), "ESC")
		} else {
			wantDecByte(t, d, b, plain(""), "ESC BAD")
		}
	}
}

func TestDecByteGoesOnWithASequence(t *testing.T) {
	const signs = "0123456789;"
	for i := range len(signs) {
		sign := signs[i : i+1]
		for n := range impl.MaxPart {
			part := strings.Repeat("1;", n)[:n]
			wantDecByte(t, csi(part), int(sign[0]), csi(part+sign), "")
		}
		wantDecByte(t, csi("12345678"), int(sign[0]), inState(impl.DecLong), "BAD")
		wantDecByte(t, csi(";;;;;;;;"), int(sign[0]), inState(impl.DecLong), "BAD")
	}
	wantDecByte(t, csi(""), '3', csi("3"), "")
	wantDecByte(t, csi("3"), ';', csi("3;"), "")
	wantDecByte(t, csi("1234567"), '8', csi("12345678"), "")
}

func TestDecByteEndsASequence(t *testing.T) {
	for key, b := range map[string]int{"UP": 'A', "DOWN": 'B', "RIGHT": 'C', "LEFT": 'D', "HOME": 'H', "END": 'F'} {
		wantDecByte(t, csi(""), b, plain(""), key)
		for _, part := range partsOfSequences()[1:] {
			wantDecByte(t, csi(part), b, plain(""), "BAD")
		}
	}
	wantDecBytes(t, csi(""), allBut(64, 126, "ABCDHF"), plain(""), "BAD")
	for _, part := range partsOfSequences()[1:] {
		wantDecBytes(t, csi(part), allBut(64, 125, ""), plain(""), "BAD")
	}
}

func TestDecByteEndsASequenceOfANumber(t *testing.T) {
	for key, parts := range map[string][]string{
		"DELETE": {"3"}, "HOME": {"1", "7"}, "END": {"4", "8"},
		"BAD": {"", "0", "2", "5", "6", "9", ";", "33", "03", "30", "3;", ";3", "3;3", "11", "17", "71", "77", "44", "48", "84", "88", "1;", "7;", "4;", "8;", ";1", ";8", "1;5", "12345678", "33333333", "77777777"},
	} {
		for _, part := range parts {
			wantDecByte(t, csi(part), '~', plain(""), key)
		}
	}
}

func TestDecByteBreaksASequenceOff(t *testing.T) {
	for _, part := range partsOfSequences() {
		wantDecByte(t, csi(part), 27, inState(impl.DecEsc), "BAD")
		wantDecBytes(t, csi(part), allBut(0, 63, "0123456789;\x1b"), plain(""), "BAD")
		wantDecBytes(t, csi(part), allBut(127, 255, ""), plain(""), "BAD")
	}
}

// The key of a letter or of a control that breaks a sequence off is lost with it, and so is a rune's first byte.
func TestDecByteBreaksASequenceOffAndIsLost(t *testing.T) {
	wantDecByte(t, csi(""), ' ', plain(""), "BAD")
	wantDecByte(t, csi(""), 1, plain(""), "BAD")
	wantDecByte(t, csi(""), 13, plain(""), "BAD")
	wantDecByte(t, csi("1"), 127, plain(""), "BAD")
	wantDecByte(t, csi("12"), 0xc3, plain(""), "BAD")
	wantDecByte(t, csi(""), '<', plain(""), "BAD")
	wantDecByte(t, csi(""), '/', plain(""), "BAD")
	wantDecByte(t, csi(""), ':', plain(""), "BAD")
	wantDecByte(t, csi(""), '?', plain(""), "BAD")
}

func TestDecByteBehindEscapeAndO(t *testing.T) {
	d := inState(impl.DecSs3)
	for key, b := range map[string]int{"UP": 'A', "DOWN": 'B', "RIGHT": 'C', "LEFT": 'D', "HOME": 'H', "END": 'F'} {
		wantDecByte(t, d, b, plain(""), key)
	}
	wantDecByte(t, d, 27, inState(impl.DecEsc), "BAD")
	wantDecBytes(t, d, allBut(0, 255, "ABCDHF\x1b"), plain(""), "BAD")
}

func TestDecByteOfALongSequence(t *testing.T) {
	d := inState(impl.DecLong)
	wantDecBytes(t, d, "0123456789;", d, "")
	wantDecByte(t, d, 27, inState(impl.DecEsc), "")
	wantDecBytes(t, d, allBut(0, 255, "0123456789;\x1b"), plain(""), "")
}
