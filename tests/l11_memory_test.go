package tests

import (
	"strings"
	"testing"
	"unsafe"

	"loop.example/g00600/impl"
)

func TestKeyBytesAreNewMemory(t *testing.T) {
	rows := append(someKeys(), keyRow{key: impl.Key{}}, keyRow{key: impl.Key{Kind: impl.KeyRune, R: -1}}, keyRow{key: impl.Key{Kind: impl.KeyTab, R: 1}})
	for _, row := range rows {
		k := row.key
		call := func() []byte { return impl.KeyBytes(k) }
		left := func() bool { return k == row.key && impl.KeyText(k) == row.text }
		wantOwnMemory(t, "KeyBytes of "+brief(k), call, left, func() { k = impl.Key{} })
		if string(impl.KeyBytes(row.key)) != row.sent {
			t.Errorf("KeyBytes of %v is %q behind a change of an answer", row.key, impl.KeyBytes(row.key))
		}
	}
}

// What one key's bytes are overwritten with is seen in no other key's.
func TestKeyBytesOfAllKeysAreApart(t *testing.T) {
	rows := someKeys()
	var all [][]byte
	for _, row := range rows {
		all = append(all, impl.KeyBytes(row.key))
	}
	for i, row := range rows {
		if string(all[i]) != row.sent {
			t.Fatalf("the bytes of %v are %q when it is their turn", row.key, all[i])
		}
		spoil(all[i])
		if impl.KeyText(row.key) != row.text || string(impl.KeyBytes(row.key)) != row.sent {
			t.Fatalf("a change of the bytes of %v changes what is told of it", row.key)
		}
	}
}

// The text may lie in memory that is written to behind the call.
func TestTextKeyKeepsNothing(t *testing.T) {
	for _, row := range someKeys() {
		bytes, whole := roomy([]byte(row.text))
		s := unsafe.String(unsafe.SliceData(bytes), len(bytes))
		k, ok := impl.TextKey(s)
		if string(bytes) != row.text || !strings.HasPrefix(string(whole), row.text+"\xaa") {
			t.Fatalf("TextKey changes %q", row.text)
		}
		again, okAgain := impl.TextKey(s)
		spoil(whole)
		if !ok || !okAgain || k != row.key || again != row.key || impl.KeyText(k) != row.text {
			t.Errorf("TextKey(%q) = %v, %v, then %v, %v", row.text, k, ok, again, okAgain)
		}
	}
}

// Nothing is kept from call to call: all answers are the same in another order.
func TestKeysAreToldInAnyOrder(t *testing.T) {
	by := dice(49979687)
	rows := someKeys()
	for range 20000 {
		row := pick(&by, rows)
		switch by.roll(4) {
		case 0:
			if got, ok := impl.TextKey(row.text); !ok || got != row.key {
				t.Fatalf("TextKey(%q) = %v, %v", row.text, got, ok)
			}
		case 1:
			if impl.KeyText(row.key) != row.text {
				t.Fatalf("KeyText(%v) = %q", row.key, impl.KeyText(row.key))
			}
		case 2:
			if b := impl.KeyBytes(row.key); string(b) != row.sent {
				t.Fatalf("KeyBytes(%v) = %q", row.key, b)
			} else {
				spoil(b)
			}
		case 3:
			wantReadAsModel(t, row.text[:by.roll(len(row.text)+1)])
		}
	}
}
