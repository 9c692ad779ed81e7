package tests

import (
	"bytes"
	"fmt"
	"strings"
	"testing"

	"loop.example/g00600/impl"
)

// byDecByte tells what comes byte by byte.
func byDecByte(d impl.Dec, text string) (impl.Dec, []impl.Key) {
	var all, keys []impl.Key
	for i := range len(text) {
		d, keys = impl.DecByte(d, int(text[i]))
		all = append(all, keys...)
	}
	return d, all
}

// wantDecode asks for the decoder behind those bytes and the keys of those texts: in one go, in all parts of two, and byte by byte.
func wantDecode(t *testing.T, given impl.Dec, text string, want impl.Dec, texts string) impl.Dec {
	t.Helper()
	if model, modelTexts := modelDecode(given, text); !sameDec(model, want) || modelTexts != texts {
		t.Fatalf("%q: the test itself is wrong: %s, %s; by the model %s, %s", text, brief(want), texts, brief(model), modelTexts)
	}
	whole, keys := impl.Decode(given, []byte(text))
	wantDec(t, fmt.Sprintf("Decode %q", text), given, whole, keys, want, texts)
	one, ones := byDecByte(given, text)
	wantDec(t, fmt.Sprintf("DecByte %q", text), given, one, ones, want, texts)
	for at := range len(text) + 1 {
		part, first := impl.Decode(given, []byte(text[:at]))
		if !impl.DecOk(part) {
			t.Errorf("behind %q the decoder is %s", text[:at], brief(part))
		}
		got, last := impl.Decode(part, []byte(text[at:]))
		wantDec(t, fmt.Sprintf("Decode in parts %q, %q", text[:at], text[at:]), given, got, append(first, last...), want, texts)
	}
	return whole
}

// wantKeysOf asks a new decoder, behind which nothing is waited for.
func wantKeysOf(t *testing.T, text string, texts string) {
	t.Helper()
	wantDecode(t, impl.Dec{}, text, plain(""), texts)
}

func TestDecodeOfNoByte(t *testing.T) {
	for _, d := range someDecs() {
		for _, b := range [][]byte{nil, {}} {
			got, keys := impl.Decode(d, b)
			wantDec(t, "Decode of no byte", d, got, keys, d, "")
		}
	}
}

func TestDecodeOfOneByte(t *testing.T) {
	for _, d := range someDecs() {
		for b := range 256 {
			want, texts := modelDecByte(d, b)
			got, keys := impl.Decode(d, []byte{byte(b)})
			wantDec(t, fmt.Sprintf("Decode of byte %d", b), d, got, keys, want, texts)
		}
	}
}

func TestDecodeOfTwoBytes(t *testing.T) {
	edges := "\x00\x01\x08\t\n\x1b 0379;AO[a~\x7f\x80\x8f\x90\x9f\xa0\xbf\xc2\xe0\xed\xf0\xf4\xff"
	for _, d := range someDecs() {
		for i := range len(edges) {
			for j := range len(edges) {
				text := edges[i:i+1] + edges[j:j+1]
				want, texts := modelDecode(d, text)
				wantDecode(t, d, text, want, texts)
			}
		}
	}
}

// keysThatNeedATick send what other keys begin with.
func keysThatNeedATick() []string { return []string{"ESC", "M-[", "M-O"} }

func needsATick(text string) bool {
	for _, key := range keysThatNeedATick() {
		if text == key {
			return true
		}
	}
	return false
}

func TestDecodeOfEachKeyAlone(t *testing.T) {
	for _, row := range someKeys() {
		if needsATick(row.text) {
			continue
		}
		sent := impl.KeyBytes(row.key)
		wantKeysOf(t, string(sent), row.text)
		if d, keys := impl.Decode(impl.Dec{}, sent); len(keys) != 1 || keys[0] != row.key || !sameDec(d, impl.Dec{}) {
			t.Errorf("%q is %v, and then %s; want %v", sent, keys, brief(d), row.key)
		}
	}
}

func TestDecodeOfEachKeyWithATick(t *testing.T) {
	met := 0
	for _, row := range someKeys() {
		d, keys := impl.Decode(impl.Dec{}, impl.KeyBytes(row.key))
		d, left := impl.DecTick(d)
		if all := append(keys, left...); len(all) != 1 || all[0] != row.key || !sameDec(d, impl.Dec{}) {
			t.Errorf("%q and a tick are %v, and then %s; want %v", row.sent, all, brief(d), row.key)
		}
		if len(left) == 1 {
			met++
		}
	}
	if met != len(keysThatNeedATick()) {
		t.Errorf("%d keys needed their tick", met)
	}
}

func TestDecodeOfTheKeysThatNeedATick(t *testing.T) {
	wantDecode(t, impl.Dec{}, "\x1b", inState(impl.DecEsc), "")
	wantDecode(t, impl.Dec{}, "\x1b[", csi(""), "")
	wantDecode(t, impl.Dec{}, "\x1bO", inState(impl.DecSs3), "")
	wantKeysOf(t, "\x1b[[", "BAD")
	wantKeysOf(t, "\x1bOO", "BAD")
	wantDecode(t, impl.Dec{}, "\x1b\x1b\x1b", inState(impl.DecEsc), "ESC ESC")
	wantDecode(t, impl.Dec{}, "\x1b[\x1b[", csi(""), "BAD")
	wantDecode(t, impl.Dec{}, "\x1bO\x1bO\x1b", inState(impl.DecEsc), "BAD BAD")
}

func TestDecodeOfKeysBehindOneAnother(t *testing.T) {
	for _, first := range someKeys() {
		for _, second := range []string{"a", "SPC", "C-a", "M-f", "ENTER", "BACK", "UP", "DELETE", "MBACK", "BAD", "é", "中", "😀"} {
			row, _ := modelRead(second)
			if !needsATick(first.text) {
				wantKeysOf(t, first.sent+row.sent, first.text+" "+second)
			}
			if !needsATick(second) && !needsATick(first.text) {
				wantKeysOf(t, row.sent+first.sent+row.sent, second+" "+first.text+" "+second)
			}
		}
	}
}

func TestDecodeOfAllKeysInOneRow(t *testing.T) {
	sent, texts := "", ""
	for _, row := range someKeys() {
		if !needsATick(row.text) {
			sent += row.sent
			texts = joined(texts, row.text)
		}
	}
	wantKeysOf(t, sent, texts)
}

func TestDecodeOfWhatOtherTerminalsSend(t *testing.T) {
	wantKeysOf(t, "\x1b[1~\x1b[7~\x1b[4~\x1b[8~", "HOME HOME END END")
	wantKeysOf(t, "\x1bOA\x1bOB\x1bOC\x1bOD\x1bOH\x1bOF", "UP DOWN RIGHT LEFT HOME END")
	wantKeysOf(t, "\x08\x1b\x08\n", "BACK MBACK ENTER")
	wantKeysOf(t, "\x1b[2~\x1b[5~\x1b[6~\x1b[15~\x1b[1;5A\x1b[Z\x1b[E", "BAD BAD BAD BAD BAD BAD BAD")
	wantKeysOf(t, "\x1bOP\x1bOQ\x1bO~\x1bO3~", "BAD BAD BAD BAD ~")
	wantKeysOf(t, "\x1b[M !!\x1b[<0;1;2M", "BAD SPC ! ! BAD 0 ; 1 ; 2 M")
	wantKeysOf(t, "\x1b[?25h", "BAD 2 5 h")
}

func TestDecodeOfEscapes(t *testing.T) {
	wantKeysOf(t, "\x1b\x1b[C", "ESC RIGHT")
	wantKeysOf(t, "\x1b\x1bOD", "ESC LEFT")
	wantKeysOf(t, "\x1b\x1bf", "ESC M-f")
	wantKeysOf(t, "\x1bf\x1b\x7f\x1b a", "M-f MBACK ESC SPC a")
	wantKeysOf(t, "\x1b\x01\x1b\r", "ESC C-a ESC ENTER")
	wantKeysOf(t, "\x1b\xc3\xa9\x1b中", "ESC é ESC 中")
	wantKeysOf(t, "\x1b\x80\x1b\xff", "ESC BAD ESC BAD")
	wantKeysOf(t, "\x1b\xc3a\x1b\xe4\x1b[A", "ESC BAD a ESC BAD UP")
	wantKeysOf(t, "\x1b0\x1b;\x1b]\x1bo", "M-0 M-; M-] M-o")
	wantKeysOf(t, "\x1b[12\x1b[A\x1bO\x1b[B\x1b[\x1b[3~", "BAD UP BAD DOWN BAD DELETE")
}

func TestDecodeOfBytesThatAreNoRune(t *testing.T) {
	wantKeysOf(t, "\xc3a", "BAD a")
	wantKeysOf(t, "\xc3\xc3\xa9", "BAD é")
	wantKeysOf(t, "\xff\x80\xc0", "BAD BAD BAD")
	wantKeysOf(t, "\xc2\x85\xc2\x80", "BAD BAD")
	wantKeysOf(t, "\xe4\xb8\xc3\xa9", "BAD é")
	wantKeysOf(t, "\xe4\xc0\x80a", "BAD BAD a")
	wantKeysOf(t, "\xed\xa0\x80", "BAD BAD")
	wantKeysOf(t, "\xf4\x90\x80\x80", "BAD BAD BAD")
	wantKeysOf(t, "\xe0\x80\x80", "BAD BAD")
	wantKeysOf(t, "\xf0\x9f\x98\xe4\xb8\xad", "BAD 中")
	wantKeysOf(t, "\xf0\x9f\x98\x1b[A", "BAD UP")
	wantKeysOf(t, "\xf0\xf0\x9f\xf0\x9f\x98\xf0\x9f\x98\x80", "BAD BAD BAD 😀")
	wantDecode(t, impl.Dec{}, "a\xf0\x9f\x98", plain("\xf0\x9f\x98"), "a")
	wantDecode(t, impl.Dec{}, "\xe4\xb8\xe4", plain("\xe4"), "BAD")
}

func TestDecodeOfAllThatIsNoRune(t *testing.T) {
	for _, form := range formsThatAreNoRune() {
		for _, text := range []string{form, form + "a", form + "\x1b[A", "é" + form + "中", form + form, "\x1b" + form, "\x1b[" + form, "\x1bO" + form + "b"} {
			want, texts := modelDecode(impl.Dec{}, text)
			wantDecode(t, impl.Dec{}, text, want, texts)
		}
	}
}

func TestDecodeOfLongSequences(t *testing.T) {
	wantKeysOf(t, "\x1b[12345678A", "BAD")
	wantKeysOf(t, "\x1b[12345678~a", "BAD a")
	wantKeysOf(t, "\x1b[123456789A", "BAD")
	wantKeysOf(t, "\x1b[123456789~a", "BAD a")
	wantKeysOf(t, "\x1b[1;2;3;4;5;6;7;8;9m\x1b[A", "BAD UP")
	wantKeysOf(t, "\x1b[;;;;;;;;;;;;;;; a", "BAD a")
	wantKeysOf(t, "\x1b[123456789\x1b[A", "BAD UP")
	wantKeysOf(t, "\x1b[123456789\x1b\x1b[A", "BAD ESC UP")
	wantKeysOf(t, "\x1b[123456789中", "BAD BAD BAD")
	wantKeysOf(t, "\x1b[123456789\xc3\xa9", "BAD BAD")
	wantDecode(t, impl.Dec{}, "\x1b[12345678", csi("12345678"), "")
	wantDecode(t, impl.Dec{}, "\x1b[123456789", inState(impl.DecLong), "BAD")
	wantDecode(t, impl.Dec{}, "\x1b[1234567890;", inState(impl.DecLong), "BAD")
	wantDecode(t, impl.Dec{}, "\x1b[123456789\x1b", inState(impl.DecEsc), "BAD")
	for n := range 40 {
		wantKeysOf(t, "\x1b["+strings.Repeat("9", n)+"Zx", "BAD x")
	}
}

// A tick within a sequence parts what comes behind it.
func TestDecodeWithTicksWithin(t *testing.T) {
	for _, row := range [][3]string{
		{"\x1b", "[A", "ESC [ A"}, {"\x1b[", "A", "M-[ A"}, {"\x1b[3", "~", "BAD ~"}, {"\x1bO", "A", "M-O A"}, {"\x1b[123456789", "A", "BAD A"},
		{"\xe4\xb8", "\xad", "BAD BAD"}, {"\xc3", "a", "BAD a"}, {"a", "b", "a b"}, {"\x1b", "\x1b[A", "ESC UP"}, {"", "\x1b[A", "UP"}, {"\x1b[A", "é", "UP é"},
	} {
		d, first := impl.Decode(impl.Dec{}, []byte(row[0]))
		d, left := impl.DecTick(d)
		d, last := impl.Decode(d, []byte(row[1]))
		wantDec(t, fmt.Sprintf("%q, a tick and %q", row[0], row[1]), impl.Dec{}, d, append(append(first, left...), last...), plain(""), row[2])
	}
}

func TestDecodeFromAllStatesInParts(t *testing.T) {
	for _, d := range someDecs() {
		for _, text := range append(textsThatAreCut(), "\x1bO", "\x1b[1;2;3;4;5A", "9~\x1b", "\xbf\xbf\xbf\x1b[;", "A\x1b\x1b\x1b[") {
			want, texts := modelDecode(d, text)
			wantDecode(t, d, text, want, texts)
		}
	}
}

func TestDecodeOfDecodersThatAreNotRight(t *testing.T) {
	for _, d := range wrongDecs() {
		for _, text := range []string{"", "a", "é", "\xa9", "A", "~", "1", "\x1b", "\x1b[A", "\xff", "abc\x1b[3~中"} {
			got, keys := impl.Decode(d, []byte(text))
			wantNoDec(t, fmt.Sprintf("Decode %q", text), d, got, keys)
		}
	}
}

// More bytes than a greatest list has in other chapters.
func TestDecodeOfMuch(t *testing.T) {
	const n = 20000
	d, keys := impl.Decode(impl.Dec{}, bytes.Repeat([]byte("a中\x1b[A\x1b \x1b[3"), n))
	// The sequence that isn't at its end takes the "a" behind it.
	if !sameDec(d, csi("3")) || len(keys) != 5*n || textOfKeys(keys[:8]) != "a 中 UP ESC SPC BAD 中 UP" {
		t.Errorf("of much there are %d keys, and then %s", len(keys), brief(d))
	}
	d, keys = impl.Decode(impl.Dec{}, []byte("\x1b["+strings.Repeat("1", 5*n)))
	if !sameDec(d, inState(impl.DecLong)) || textOfKeys(keys) != "BAD" {
		t.Errorf("of a sequence of many digits the keys are %s, and then %s", textOfKeys(keys), brief(d))
	}
	d, keys = impl.Decode(impl.Dec{}, bytes.Repeat([]byte{27}, 5*n))
	if !sameDec(d, inState(impl.DecEsc)) || len(keys) != 5*n-1 || textOfKeys(keys[5*n-3:]) != "ESC ESC" {
		t.Errorf("of many escapes there are %d keys, and then %s", len(keys), brief(d))
	}
}
