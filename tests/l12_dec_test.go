package tests

import (
	"strings"
	"testing"

	"loop.example/g00600/impl"
)

func TestConstantsOfTheDecoder(t *testing.T) {
	if impl.MaxPart != 8 || impl.DecPlain != 0 || impl.DecEsc != 1 || impl.DecCsi != 2 || impl.DecSs3 != 3 || impl.DecLong != 4 {
		t.Error("the constants of chapter 13 are others")
	}
}

func wantDecOk(t *testing.T, want bool, state int, parts ...string) {
	t.Helper()
	for _, part := range parts {
		d := impl.Dec{State: state, Part: []byte(part)}
		if modelDec(d) != want {
			t.Fatalf("the test itself is wrong: State %d with %q", state, part)
		}
		if impl.DecOk(d) != want {
			t.Errorf("DecOk is %v of State %d with %q", !want, state, part)
		}
	}
}

func TestDecOkOfStates(t *testing.T) {
	if !impl.DecOk(impl.Dec{}) {
		t.Error("DecOk is false of a new decoder")
	}
	for state := impl.DecPlain; state <= impl.DecLong; state++ {
		wantDecOk(t, true, state, "")
		if !impl.DecOk(inState(state)) || !impl.DecOk(impl.Dec{State: state, Part: []byte{}}) {
			t.Errorf("DecOk is false of State %d without Part", state)
		}
	}
	for _, state := range farStates() {
		wantDecOk(t, false, state, "", "1", ";", "12345678", "123456789", "\xc3", "\xe4\xb8", "a", "[")
	}
}

func TestDecOkOfPlain(t *testing.T) {
	wantDecOk(t, true, impl.DecPlain, partsOfRunes()...)
	wantDecOk(t, false, impl.DecPlain, "é", "中", "😀", "\xc2\x80", "\xc2\x9f", "\xed\x9f\xbf", "\xee\x80\x80", "\xef\xbf\xbf", "\xf4\x8f\xbf\xbf")
	wantDecOk(t, false, impl.DecPlain, "\x00", "\x1b", "[", "1", ";", "a", "~", "\x7f", "\x80", "\xbf", "\xc0", "\xc1", "\xf5", "\xf8", "\xff")
	wantDecOk(t, false, impl.DecPlain, "\xc3a", "a\xc3", "\xc3\xc3", "\xe4\xb8a", "\xe4\xb8\xc3", "\xe0\x80", "\xe0\x9f", "\xed\xa0", "\xf0\x8f", "\xf0\x9f\x98a", "\xf4\x90", "\xc0\x80")
	wantDecOk(t, false, impl.DecPlain, wrongPartsOfRunes()...)
}

func TestDecOkOfPlainWithAllShortParts(t *testing.T) {
	for a := range 256 {
		one := string([]byte{byte(a)})
		wantDecOk(t, modelBegins([]byte(one)), impl.DecPlain, one)
		for b := range 256 {
			two := string([]byte{byte(a), byte(b)})
			wantDecOk(t, modelBegins([]byte(two)), impl.DecPlain, two)
		}
	}
}

func TestDecOkOfSequences(t *testing.T) {
	wantDecOk(t, true, impl.DecCsi, partsOfSequences()...)
	wantDecOk(t, false, impl.DecCsi, wrongPartsOfSequences()...)
	for n := range impl.MaxPart + 4 {
		wantDecOk(t, n <= impl.MaxPart, impl.DecCsi, strings.Repeat("0", n), strings.Repeat("9", n), strings.Repeat(";", n), strings.Repeat("1;", n)[:n])
	}
}

// Each byte at each place of a part, among digits.
func TestDecOkOfSequencesWithEachByte(t *testing.T) {
	for n := 1; n <= impl.MaxPart; n++ {
		for at := range n {
			for b := range 256 {
				part := []byte(strings.Repeat("4", n))
				part[at] = byte(b)
				wantDecOk(t, goesOn(b), impl.DecCsi, string(part))
			}
		}
	}
}

func TestDecOkOfStatesWithoutPart(t *testing.T) {
	for _, state := range []int{impl.DecEsc, impl.DecSs3, impl.DecLong} {
		for b := range 256 {
			wantDecOk(t, false, state, string([]byte{byte(b)}))
		}
		wantDecOk(t, false, state, partsOfRunes()...)
		wantDecOk(t, false, state, partsOfSequences()[1:]...)
		wantDecOk(t, false, state, "\x1b[", "O", strings.Repeat("1", 1000))
	}
}

// The lists of the tests are what they are named.
func TestDecOkOfAllOfTheTests(t *testing.T) {
	for _, d := range someDecs() {
		if !modelDec(d) || !impl.DecOk(d) {
			t.Errorf("DecOk is %v of %s", impl.DecOk(d), brief(d))
		}
	}
	for _, d := range wrongDecs() {
		if modelDec(d) || impl.DecOk(d) {
			t.Errorf("DecOk is %v of %s", impl.DecOk(d), brief(d))
		}
	}
}
