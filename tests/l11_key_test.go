package tests

import (
	"testing"

	"loop.example/g00600/impl"
)

func TestConstantsOfKeys(t *testing.T) {
	kinds := []int{impl.KeyRune, impl.KeyCtrl, impl.KeyMeta, impl.KeyEnter, impl.KeyBack, impl.KeyTab, impl.KeyEsc, impl.KeyUp, impl.KeyDown, impl.KeyRight, impl.KeyLeft, impl.KeyHome, impl.KeyEnd, impl.KeyDelete, impl.KeyMetaBack, impl.KeyBad}
	for i, kind := range kinds {
		if kind != i+1 {
			t.Errorf("kind %d of chapter 12 is %d", i+1, kind)
		}
	}
}

// wantKey asks all functions of a key about one that is right.
func wantKey(t *testing.T, k impl.Key, text string, sent string) {
	t.Helper()
	if row, right := modelKey(k); !right || row.text != text || row.sent != sent {
		t.Fatalf("%v: the test itself is wrong: %q, %q; by the model %q, %q, %v", k, text, sent, row.text, row.sent, right)
	}
	if !impl.KeyOk(k) {
		t.Errorf("KeyOk(%v) is false", k)
	}
	if got := impl.KeyText(k); got != text {
		t.Errorf("KeyText(%v) = %q; want %q", k, got, text)
	}
	if got := impl.KeyBytes(k); string(got) != sent {
		t.Errorf("KeyBytes(%v) = %q; want %q", k, got, sent)
	}
	if got, ok := impl.TextKey(text); !ok || got != k {
		t.Errorf("TextKey(%q) = %v, %v; want %v", text, got, ok, k)
	}
}

// wantNoKey asks them about one that isn't.
func wantNoKey(t *testing.T, k impl.Key) {
	t.Helper()
	if _, right := modelKey(k); right {
		t.Fatalf("%v: the test itself is wrong: the model has it", k)
	}
	if impl.KeyOk(k) {
		t.Errorf("KeyOk(%v) is true", k)
	}
	if text := impl.KeyText(k); text != "" {
		t.Errorf("KeyText(%v) = %q", k, text)
	}
	if sent := impl.KeyBytes(k); len(sent) != 0 {
		t.Errorf("KeyBytes(%v) = %q", k, sent)
	}
}

func TestKeysOfRunes(t *testing.T) {
	sign := func(r int) impl.Key { return impl.Key{Kind: impl.KeyRune, R: r} }
	wantKey(t, sign(32), "SPC", " ")
	wantKey(t, sign(33), "!", "!")
	wantKey(t, sign('a'), "a", "a")
	wantKey(t, sign('C'), "C", "C")
	wantKey(t, sign('M'), "M", "M")
	wantKey(t, sign('-'), "-", "-")
	wantKey(t, sign('S'), "S", "S")
	wantKey(t, sign(126), "~", "~")
	wantKey(t, sign(160), "\xc2\xa0", "\xc2\xa0")
	wantKey(t, sign(233), "\xc3\xa9", "\xc3\xa9")
	wantKey(t, sign(2047), "\xdf\xbf", "\xdf\xbf")
	wantKey(t, sign(2048), "\xe0\xa0\x80", "\xe0\xa0\x80")
	wantKey(t, sign(wide), "\xe4\xb8\xad", "\xe4\xb8\xad")
	wantKey(t, sign(55295), "\xed\x9f\xbf", "\xed\x9f\xbf")
	wantKey(t, sign(57344), "\xee\x80\x80", "\xee\x80\x80")
	wantKey(t, sign(65533), "\xef\xbf\xbd", "\xef\xbf\xbd")
	wantKey(t, sign(65535), "\xef\xbf\xbf", "\xef\xbf\xbf")
	wantKey(t, sign(65536), "\xf0\x90\x80\x80", "\xf0\x90\x80\x80")
	wantKey(t, sign(128512), "\xf0\x9f\x98\x80", "\xf0\x9f\x98\x80")
	wantKey(t, sign(impl.MaxRune), "\xf4\x8f\xbf\xbf", "\xf4\x8f\xbf\xbf")
}

func TestKeysOfRunesThatAreNotPrintable(t *testing.T) {
	none := append(farInts(), impl.Half, -1, 127, 55296, 56000, 57343, impl.MaxRune+1)
	for r := range 32 {
		none = append(none, r)
	}
	for r := 128; r < 160; r++ {
		none = append(none, r)
	}
	for _, r := range none {
		wantNoKey(t, impl.Key{Kind: impl.KeyRune, R: r})
	}
}

func TestKeysOfEachRune(t *testing.T) {
	for r := -200; r < impl.MaxRune+200; r++ {
		k := impl.Key{Kind: impl.KeyRune, R: r}
		row, right := modelKey(k)
		if !right {
			row = keyRow{}
		}
		if impl.KeyOk(k) != right || impl.KeyText(k) != row.text || string(impl.KeyBytes(k)) != row.sent {
			t.Fatalf("%v: KeyOk is %v, KeyText %q, KeyBytes %q", k, impl.KeyOk(k), impl.KeyText(k), impl.KeyBytes(k))
		}
		text := string(bytesOfRune(r))
		if got, ok := impl.TextKey(text); ok != (right && r != 32) || ok && got != k || !ok && got != (impl.Key{}) {
			t.Fatalf("TextKey(%q) = %v, %v", text, got, ok)
		}
	}
}

func TestKeysWithCtrl(t *testing.T) {
	ctrl := func(r int) impl.Key { return impl.Key{Kind: impl.KeyCtrl, R: r} }
	wantKey(t, ctrl('_'), "C-_", "\x1f")
	wantKey(t, ctrl('a'), "C-a", "\x01")
	wantKey(t, ctrl('b'), "C-b", "\x02")
	wantKey(t, ctrl('g'), "C-g", "\x07")
	wantKey(t, ctrl('k'), "C-k", "\x0b")
	wantKey(t, ctrl('l'), "C-l", "\x0c")
	wantKey(t, ctrl('n'), "C-n", "\x0e")
	wantKey(t, ctrl('y'), "C-y", "\x19")
	wantKey(t, ctrl('z'), "C-z", "\x1a")
	for _, r := range "hijm`{^@[]A\x1f\x00 SPCHIJMZ?-\u00e9" {
		wantNoKey(t, ctrl(int(r)))
	}
}

func TestKeysWithMeta(t *testing.T) {
	meta := func(r int) impl.Key { return impl.Key{Kind: impl.KeyMeta, R: r} }
	wantKey(t, meta(33), "M-!", "\x1b!")
	wantKey(t, meta('-'), "M--", "\x1b-")
	wantKey(t, meta('['), "M-[", "\x1b[")
	wantKey(t, meta('O'), "M-O", "\x1bO")
	wantKey(t, meta('_'), "M-_", "\x1b_")
	wantKey(t, meta('f'), "M-f", "\x1bf")
	wantKey(t, meta('h'), "M-h", "\x1bh")
	wantKey(t, meta('M'), "M-M", "\x1bM")
	wantKey(t, meta(126), "M-~", "\x1b~")
	for _, r := range []int{0, 27, 31, 32, 127, 128, 159, 160, 233, wide, 1<<32 + 'f'} {
		wantNoKey(t, meta(r))
	}
}

func TestKeysWithCtrlOrMetaEverywhere(t *testing.T) {
	for _, kind := range []int{impl.KeyCtrl, impl.KeyMeta} {
		for r := -300; r <= 600; r++ {
			wantAsModel(t, impl.Key{Kind: kind, R: r})
		}
		for _, r := range append(farInts(), runeEdges()...) {
			wantAsModel(t, impl.Key{Kind: kind, R: r})
		}
	}
}

func wantAsModel(t *testing.T, k impl.Key) {
	t.Helper()
	if row, right := modelKey(k); right {
		wantKey(t, k, row.text, row.sent)
	} else {
		wantNoKey(t, k)
	}
}

func TestKeysWithAName(t *testing.T) {
	named := func(kind int, text string, sent string) {
		t.Helper()
		wantKey(t, impl.Key{Kind: kind}, text, sent)
		for _, r := range append(farInts(), -1, 1, 13, 32, 'a', '_', 127, wide) {
			wantNoKey(t, impl.Key{Kind: kind, R: r})
		}
	}
	named(impl.KeyEnter, "ENTER", "\r")
	named(impl.KeyBack, "BACK", "\x7f")
	named(impl.KeyTab, "TAB", "\t")
	named(impl.KeyEsc, "ESC", "\x1b")
	named(impl.KeyUp, "UP", "\x1b[A")
	named(impl.KeyDown, "DOWN", "\x1b[B")
	named(impl.KeyRight, "RIGHT", "\x1b[C")
	named(impl.KeyLeft, "LEFT", "\x1b[D")
	named(impl.KeyHome, "HOME", "\x1b[H")
	named(impl.KeyEnd, "END", "\x1b[F")
	named(impl.KeyDelete, "DELETE", "\x1b[3~")
	named(impl.KeyMetaBack, "MBACK", "\x1b\x7f")
	named(impl.KeyBad, "BAD", "\x00")
}

// No other kind is right, whatever its R.
func TestKeysOfOtherKinds(t *testing.T) {
	kinds := append(farInts(), -3, -1, 0, impl.KeyBad+1, impl.KeyBad+2, 32, 255, 256, 1<<32+impl.KeyRune, 1<<32+impl.KeyEnter, 1<<32+impl.KeyBad)
	for _, kind := range kinds {
		for _, r := range append(farInts(), -1, 0, 1, 32, 33, '_', 'a', 'f', 126, wide) {
			wantNoKey(t, impl.Key{Kind: kind, R: r})
		}
	}
}

func TestKeysOfEveryKind(t *testing.T) {
	for kind := -20; kind <= 40; kind++ {
		for r := -40; r <= 300; r++ {
			wantAsModel(t, impl.Key{Kind: kind, R: r})
		}
		for _, r := range append(extremes(), impl.Half, wide, impl.MaxRune, impl.MaxRune+1) {
			wantAsModel(t, impl.Key{Kind: kind, R: r})
		}
	}
}
