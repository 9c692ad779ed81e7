package tests

import (
	"strings"
	"testing"

	"loop.example/g00600/impl"
)

// P5 of one key; reading the bytes of many is the decoder's.

func TestP5TextsAreReadAsTheyWereWritten(t *testing.T) {
	for kind := -2; kind <= impl.KeyBad+2; kind++ {
		for r := -2; r <= 70000; r++ {
			k := impl.Key{Kind: kind, R: r}
			if !impl.KeyOk(k) {
				continue
			}
			if got, ok := impl.TextKey(impl.KeyText(k)); !ok || got != k {
				t.Fatalf("the text of %v is %q, and that is read as %v, %v", k, impl.KeyText(k), got, ok)
			}
		}
	}
}

// What is read at all is a right key, written so.
func TestP5NothingElseIsReadAsAKey(t *testing.T) {
	by := dice(67867967)
	heads := []string{"", "", "C-", "M-", "C", "M", "-", "SPC", "UP", "ESC", " "}
	read := 0
	for range 100000 {
		s := pick(&by, heads)
		switch by.roll(4) {
		case 0:
			s += string(bytesOfRune(rolledRune(&by)))
		case 1:
			s += string(someBytes(by.roll(4), uint32(by.roll(1<<30))))
		case 2:
			s += string([]byte{byte(by.roll(128))})
		case 3:
			s += pick(&by, keyRows).text
		}
		wantReadAsModel(t, s)
		if k, ok := impl.TextKey(s); ok {
			read++
			if !impl.KeyOk(k) || impl.KeyText(k) != s {
				t.Fatalf("%q is read as %v, whose text is %q", s, k, impl.KeyText(k))
			}
		}
	}
	if read < 10000 || read > 90000 {
		t.Errorf("%d texts were read", read)
	}
}

// No two keys send the same, or no reader could tell them apart.
func TestP5WhatKeysSendTellsThemApart(t *testing.T) {
	of := map[string]impl.Key{}
	see := func(k impl.Key) {
		sent := string(impl.KeyBytes(k))
		if other, met := of[sent]; met || sent == "" {
			t.Fatalf("%v and %v send %q", k, other, sent)
		}
		of[sent] = k
	}
	for _, row := range keyRows {
		see(row.key)
	}
	for r := range 70000 {
		if k := (impl.Key{Kind: impl.KeyRune, R: r}); impl.KeyOk(k) {
			see(k)
		}
	}
}

// A key that sends one byte below 128 is the key of that byte.
func TestP5KeysOfOneByteComeBack(t *testing.T) {
	alone := 0
	for _, row := range someKeys() {
		sent := impl.KeyBytes(row.key)
		if len(sent) != 1 || sent[0] > 127 {
			continue
		}
		alone++
		if got := impl.ByteKey(int(sent[0])); got != row.key {
			t.Errorf("%v sends %q, and that is %v", row.key, sent, got)
		}
	}
	for r := 32; r <= 126; r++ {
		k := impl.Key{Kind: impl.KeyRune, R: r}
		if got := impl.ByteKey(int(impl.KeyBytes(k)[0])); got != k {
			t.Errorf("%v comes back as %v", k, got)
		}
	}
	if alone < 23+5 {
		t.Errorf("%d keys send one byte", alone)
	}
}

// A byte is sent again for its key, but where several bytes are one key.
func TestP5EachByteBeginsWhatItsKeySends(t *testing.T) {
	others := map[int]byte{8: 127, 10: 13, 28: 0, 29: 0, 30: 0}
	for b := range 128 {
		want, other := others[b]
		if !other {
			want = byte(b)
		}
		sent := impl.KeyBytes(impl.ByteKey(b))
		if len(sent) != 1 || sent[0] != want {
			t.Errorf("for the key of byte %d %q is sent; want %q", b, sent, []byte{want})
		}
		if again := impl.ByteKey(int(want)); again != impl.ByteKey(b) {
			t.Errorf("bytes %d and %d are %v and %v", b, want, impl.ByteKey(b), again)
		}
	}
}

// Of what is sent for a key all but a rune's bytes begins with a control.
func TestP5WhatIsSentBegins(t *testing.T) {
	for _, row := range someKeys() {
		sent := string(impl.KeyBytes(row.key))
		control := sent[0] < 32 || sent[0] == 127
		if control == (row.key.Kind == impl.KeyRune) {
			t.Errorf("for %v %q is sent", row.key, sent)
		}
		if sent[0] == 27 && row.key.Kind != impl.KeyEsc && len(sent) < 2 {
			t.Errorf("for %v %q is sent, as for ESC", row.key, sent)
		}
		if strings.HasPrefix(sent, "\x1b[") && len(sent) == 2 && row.key != (impl.Key{Kind: impl.KeyMeta, R: '['}) {
			t.Errorf("for %v %q is sent, as for M-[", row.key, sent)
		}
	}
}
