package tests

import (
	"bytes"
	"fmt"
	"slices"
	"testing"

	"loop.example/g00600/impl"
)

// decCall is a call of a function of chapter 13 that is given a decoder and answers one, and keys.
type decCall struct {
	what string
	call func(d impl.Dec) (impl.Dec, []impl.Key)
}

// decCalls take a byte of each kind, a tick, no byte, and many.
func decCalls() []decCall {
	calls := []decCall{{"DecTick", impl.DecTick}}
	for _, b := range []int{-1, 256, 0, 8, 27, ' ', '1', ';', 'A', 'O', '[', 'a', '~', 127, 128, 152, 160, 169, 173, 184, 191, 195, 228, 240, 255} {
		calls = append(calls, decCall{fmt.Sprintf("DecByte %d", b), func(d impl.Dec) (impl.Dec, []impl.Key) { return impl.DecByte(d, b) }})
	}
	for _, text := range []string{"", "a", "abc", "\xa9", "\xf0\x9f", "\xf0\x9f\x98\x80\xe4\xb8", "\x1b[1;2", "\x1b[12345678", "\x1b[123456789", "1", "23", "A\x1b[3~\x1b", "é中\x1bO"} {
		calls = append(calls, decCall{fmt.Sprintf("Decode %q", text), func(d impl.Dec) (impl.Dec, []impl.Key) { return impl.Decode(d, []byte(text)) }})
	}
	return calls
}

// roomyDec tells d with spare room behind its Part, and whether all of that is as it was.
func roomyDec(d impl.Dec) (impl.Dec, func() bool) {
	part, whole := roomy(d.Part)
	before := bytes.Clone(whole)
	return impl.Dec{State: d.State, Part: part}, func() bool { return bytes.Equal(whole, before) }
}

func spoilKeys(keys []impl.Key) {
	for i := range keys[:cap(keys)] {
		keys[:cap(keys)][i] = impl.Key{Kind: -7, R: -7}
	}
}

func TestCallsOfTheDecoderLeaveTheirArguments(t *testing.T) {
	for _, given := range append(someDecs(), wrongDecs()...) {
		for _, c := range decCalls() {
			d, left := roomyDec(given)
			out, keys := c.call(d)
			if !left() {
				t.Fatalf("%s changes its argument %s", c.what, brief(given))
			}
			want, wantKeys := cloneDec(out), slices.Clone(keys)
			again, keysAgain := c.call(d)
			if !left() || !sameDec(again, want) || !slices.Equal(keysAgain, wantKeys) {
				t.Fatalf("%s of %s answers something else the second time", c.what, brief(given))
			}
			spoil(again.Part)
			spoilKeys(keysAgain)
			if !left() || !sameDec(out, want) || !slices.Equal(keys, wantKeys) {
				t.Fatalf("%s of %s: the answer shares memory with the argument or with another answer", c.what, brief(given))
			}
			spoil(d.Part)
			if !sameDec(out, want) || !slices.Equal(keys, wantKeys) {
				t.Fatalf("%s of %s: a change of the argument changes the answer", c.what, brief(given))
			}
		}
	}
}

func TestTheListsOfADecoderShareNothing(t *testing.T) {
	for _, given := range append(someDecs(), wrongDecs()...) {
		for _, c := range decCalls() {
			d, _ := roomyDec(given)
			out, keys := c.call(d)
			if meet(out.Part, d.Part) || meet(keys, d.Part) || meet(out.Part, keys) {
				t.Fatalf("%s of %s: the answer shares memory", c.what, brief(given))
			}
		}
	}
}

// Two ways on from one decoder don't meet, though both put something behind the same Part.
func TestTwoWaysOnFromOneDecoder(t *testing.T) {
	for _, given := range someDecs() {
		from, _ := impl.Decode(given, nil)
		before := cloneDec(from)
		var outs, wants []impl.Dec
		for b := range 256 {
			out, _ := impl.DecByte(from, b)
			want, _ := modelDecByte(before, b)
			outs, wants = append(outs, out), append(wants, want)
		}
		for b := range 256 {
			if !sameDec(outs[b], wants[b]) {
				t.Fatalf("DecByte %d of %s is %s behind the other calls", b, brief(before), brief(outs[b]))
			}
		}
		if !sameDec(from, before) {
			t.Fatalf("the calls change %s", brief(before))
		}
	}
}

func TestDecodeLeavesTheBytes(t *testing.T) {
	for _, given := range append(someDecs(), wrongDecs()[:4]...) {
		for _, text := range append(textsThatAreCut(), "\xa9", "12", "\xb8\xad", "A") {
			b, whole := roomy([]byte(text))
			before := bytes.Clone(whole)
			out, keys := impl.Decode(given, b)
			want, wantKeys := cloneDec(out), slices.Clone(keys)
			again, keysAgain := impl.Decode(given, b)
			spoil(again.Part)
			spoilKeys(keysAgain)
			if !bytes.Equal(whole, before) {
				t.Fatalf("Decode changes %q, or its answer shares memory with it", text)
			}
			spoil(b)
			if !sameDec(out, want) || !slices.Equal(keys, wantKeys) {
				t.Fatalf("a change of %q changes the answer of Decode", text)
			}
		}
	}
}

// What stands in the spare room behind the bytes isn't looked at.
func TestDecodeEndsWithTheBytes(t *testing.T) {
	whole := []byte("a\x1b[3~é\x1bOA中\xf0\x9f\x98\x80")
	for n := range len(whole) + 1 {
		got, keys := impl.Decode(impl.Dec{}, whole[:n])
		want, texts := modelDecode(impl.Dec{}, string(whole[:n]))
		wantDec(t, fmt.Sprintf("Decode %q", whole[:n]), impl.Dec{}, got, keys, want, texts)
	}
}

func TestDecOkLeavesTheDecoder(t *testing.T) {
	for _, given := range append(someDecs(), wrongDecs()...) {
		d, left := roomyDec(given)
		if impl.DecOk(d) != modelDec(given) || impl.DecOk(d) != modelDec(given) {
			t.Errorf("DecOk of %s with spare room is another one", brief(given))
		}
		if !left() {
			t.Errorf("DecOk changes %s", brief(given))
		}
	}
}

// Nothing is kept from call to call: many decoders are fed in turns.
func TestManyDecodersInTurns(t *testing.T) {
	by := dice(15485863)
	decs := someDecs()
	for range 20000 {
		at := by.roll(len(decs))
		text := rolledSent(&by)
		want, texts := modelDecode(decs[at], text)
		got, keys := impl.Decode(decs[at], []byte(text))
		wantDec(t, fmt.Sprintf("Decode %q", text), decs[at], got, keys, want, texts)
		spoilKeys(keys)
		decs[at] = got
	}
}
