package tests

import (
	"testing"

	"loop.example/g00600/impl"
)

func wantTick(t *testing.T, given impl.Dec, texts string) {
	t.Helper()
	if model, modelTexts := modelDecTick(given); !sameDec(model, impl.Dec{}) || modelTexts != texts {
		t.Fatalf("DecTick of %s: the test itself is wrong: %s; by the model %s", brief(given), texts, modelTexts)
	}
	got, keys := impl.DecTick(given)
	wantDec(t, "DecTick", given, got, keys, plain(""), texts)
	if len(keys) > 1 {
		t.Errorf("DecTick of %s gives %d keys", brief(given), len(keys))
	}
	again, none := impl.DecTick(got)
	wantDec(t, "a second DecTick", got, again, none, plain(""), "")
}

func TestDecTick(t *testing.T) {
	wantTick(t, impl.Dec{}, "")
	wantTick(t, plain(""), "")
	wantTick(t, inState(impl.DecEsc), "ESC")
	wantTick(t, csi(""), "M-[")
	wantTick(t, inState(impl.DecSs3), "M-O")
	wantTick(t, inState(impl.DecLong), "")
}

func TestDecTickBreaksAPartOff(t *testing.T) {
	for _, part := range partsOfRunes() {
		wantTick(t, plain(part), "BAD")
	}
	for _, part := range partsOfSequences()[1:] {
		wantTick(t, csi(part), "BAD")
	}
}

func TestDecTickOfDecodersThatAreNotRight(t *testing.T) {
	for _, d := range wrongDecs() {
		got, keys := impl.DecTick(d)
		wantNoDec(t, "DecTick", d, got, keys)
	}
}

// What comes behind a tick is read as by a new decoder.
func TestDecTickAndThenBytes(t *testing.T) {
	for _, d := range someDecs() {
		ticked, _ := impl.DecTick(d)
		for b := range 256 {
			want, texts := modelDecByte(impl.Dec{}, b)
			got, keys := impl.DecByte(ticked, b)
			wantDec(t, "DecByte behind a tick", d, got, keys, want, texts)
		}
	}
}
