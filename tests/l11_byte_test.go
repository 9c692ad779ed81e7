package tests

import (
	"testing"

	"loop.example/g00600/impl"
)

func wantByteKey(t *testing.T, b int, want impl.Key) {
	t.Helper()
	if text, _ := modelKey(want); text.text != modelByteText(b) {
		t.Fatalf("ByteKey(%d): the test itself is wrong: %q; by the model %q", b, text.text, modelByteText(b))
	}
	if got := impl.ByteKey(b); got != want {
		t.Errorf("ByteKey(%d) = %v; want %v", b, got, want)
	}
}

func TestByteKey(t *testing.T) {
	for kind, bytes := range map[int][]int{impl.KeyBack: {8, 127}, impl.KeyTab: {9}, impl.KeyEnter: {10, 13}, impl.KeyEsc: {27}, impl.KeyBad: {0, 28, 29, 30}} {
		for _, b := range bytes {
			wantByteKey(t, b, impl.Key{Kind: kind})
		}
	}
	for b, r := range map[int]int{1: 'a', 2: 'b', 7: 'g', 11: 'k', 12: 'l', 14: 'n', 25: 'y', 26: 'z', 31: '_'} {
		wantByteKey(t, b, impl.Key{Kind: impl.KeyCtrl, R: r})
	}
	for _, b := range []int{32, 33, '0', 'A', 'Z', '[', '_', 'a', 'h', 'z', '~'} {
		wantByteKey(t, b, impl.Key{Kind: impl.KeyRune, R: b})
	}
}

func TestByteKeyOfNoByteBelow128(t *testing.T) {
	const top = int(^uint(0) >> 1)
	for _, b := range []int{-top - 1, -top, -1 << 32, -1<<32 + 13, -256 + 13, -128, -97, -27, -2, -1, 128, 129, 155, 195, 255, 256, 256 + 13, 256 + 97, 1<<16 + 97, 1 << 32, 1<<32 + 13, 1<<32 + 97, top - 1, top} {
		wantByteKey(t, b, impl.Key{})
	}
	for _, b := range append(farInts(), impl.Half, impl.MaxRune, wide) {
		wantByteKey(t, b, impl.Key{})
	}
}

func TestByteKeyOfEachByte(t *testing.T) {
	for b := -1000; b <= 1000; b++ {
		want := impl.Key{}
		if row, has := modelRead(modelByteText(b)); has {
			want = row.key
		}
		if b >= 0 && b <= 127 && want == (impl.Key{}) {
			t.Fatalf("the test itself is wrong: no key of byte %d", b)
		}
		wantByteKey(t, b, want)
		if impl.KeyOk(impl.ByteKey(b)) != (b >= 0 && b < 128) {
			t.Errorf("KeyOk of the key of byte %d is %v", b, !(b >= 0 && b < 128))
		}
	}
}
