package tests

import (
	"fmt"
	"strings"
	"testing"

	"loop.example/g00600/impl"
)

// P5 of many keys: what a terminal sends for them is read as they were, in any parts.

// rolledSent is what is sent for a key, a part of that, a sequence, or any bytes.
func rolledSent(by *dice) string {
	switch by.roll(14) {
	case 0:
		return string(someBytes(1+by.roll(6), uint32(by.roll(1<<30))))
	case 1:
		return rolledSequence(by)
	case 2:
		return "\x1bO" + string([]byte{byte(by.roll(128))})
	case 3:
		return pick(by, formsThatAreNoRune())
	case 4:
		return "\x1b[" + strings.Repeat(pick(by, []string{"1", ";", "3"}), by.roll(12))
	case 5:
		whole := bytesOfRune(rolledRune(by))
		return string(whole[:by.roll(len(whole)+1)])
	case 6:
		return "\x1b"
	case 7, 8, 9:
		return string(bytesOfRune(rolledRune(by)))
	case 10, 11:
		return pick(by, namedRows()).sent
	}
	return pick(by, keyRows).sent
}

// wantRightKeys asks for keys that are right, at most so many.
func wantRightKeys(t *testing.T, what string, keys []impl.Key, most int) {
	t.Helper()
	if len(keys) > most {
		t.Fatalf("%s gives %d keys: %v", what, len(keys), keys)
	}
	for _, k := range keys {
		if !impl.KeyOk(k) {
			t.Fatalf("%s gives %v, which isn't right", what, k)
		}
	}
}

// wantNothingWaits asks for a new decoder behind a tick.
func wantNothingWaits(t *testing.T, d impl.Dec) {
	t.Helper()
	ticked, keys := impl.DecTick(d)
	wantRightKeys(t, "DecTick of "+brief(d), keys, 1)
	if !sameDec(ticked, impl.Dec{}) {
		t.Fatalf("behind a tick %s is %s", brief(d), brief(ticked))
	}
	again, none := impl.DecTick(ticked)
	if !sameDec(again, impl.Dec{}) || len(none) > 0 {
		t.Fatalf("behind a second tick %s gives %v", brief(d), none)
	}
}

// seeKeys counts what a byte met.
func seeKeys(met map[string]int, before impl.Dec, keys []impl.Key) {
	met[fmt.Sprintf("State %d", before.State)]++
	met[fmt.Sprintf("%d keys", len(keys))]++
	if before.State == impl.DecPlain && len(before.Part) > 0 {
		met["a part of a rune"]++
	}
	if before.State == impl.DecCsi && len(before.Part) == impl.MaxPart {
		met["a full part"]++
	}
	for _, k := range keys {
		met[fmt.Sprintf("Kind %d", k.Kind)]++
	}
}

func TestP5ADecoderStaysRight(t *testing.T) {
	by := dice(86028121)
	met := map[string]int{}
	now := impl.Dec{}
	for range 40000 {
		text := rolledSent(&by)
		for i := range len(text) {
			next, keys := impl.DecByte(now, int(text[i]))
			what := fmt.Sprintf("DecByte %d of %s", text[i], brief(now))
			wantRightKeys(t, what, keys, 2)
			if want, texts := modelDecByte(now, int(text[i])); !sameDec(next, want) || textOfKeys(keys) != texts || !impl.DecOk(next) {
				t.Fatalf("%s is %s, %s; want %s, %s", what, brief(next), textOfKeys(keys), brief(want), texts)
			}
			seeKeys(met, now, keys)
			now = next
			wantNothingWaits(t, now)
		}
		if by.roll(6) == 0 {
			now, _ = impl.DecTick(now)
			met["a tick"]++
		}
	}
	wantMet(t, met, 200, "State 0", "State 1", "State 2", "State 3", "State 4", "0 keys", "1 keys", "2 keys", "a part of a rune", "a full part", "a tick")
	for kind := impl.KeyRune; kind <= impl.KeyBad; kind++ {
		wantMet(t, met, 100, fmt.Sprintf("Kind %d", kind))
	}
}

// From every right state each byte gives at most two keys, and then the same with a second byte.
func TestP5AByteGivesAtMostTwoKeys(t *testing.T) {
	met := map[string]int{}
	for _, d := range someDecs() {
		for b := range 256 {
			next, keys := impl.DecByte(d, b)
			wantRightKeys(t, fmt.Sprintf("DecByte %d of %s", b, brief(d)), keys, 2)
			wantNothingWaits(t, next)
			seeKeys(met, d, keys)
			for c := range 256 {
				last, more := impl.DecByte(next, c)
				if !impl.DecOk(last) || len(more) > 2 {
					t.Fatalf("DecByte %d of %s is %s, %v", c, brief(next), brief(last), more)
				}
			}
		}
	}
	wantMet(t, met, 100, "0 keys", "1 keys", "2 keys")
}

// A long row of bytes comes in rolled parts, of which some are empty.
func TestP5InAnyParts(t *testing.T) {
	by := dice(122949823)
	for range 1500 {
		from := pick(&by, someDecs())
		text := ""
		for range 30 {
			text += rolledSent(&by)
		}
		want, texts := modelDecode(from, text)
		whole, keys := impl.Decode(from, []byte(text))
		wantDec(t, fmt.Sprintf("Decode %q", text), from, whole, keys, want, texts)
		now, all := from, []impl.Key(nil)
		for rest := text; rest != ""; {
			n := min(by.roll(7), len(rest))
			next, some := impl.Decode(now, []byte(rest[:n]))
			wantRightKeys(t, fmt.Sprintf("Decode %q", rest[:n]), some, 2*n)
			now, all = next, append(all, some...)
			rest = rest[n:]
		}
		wantDec(t, fmt.Sprintf("Decode %q in parts", text), from, now, all, want, texts)
	}
}

// rolledKey is any right key, but none of those that need a tick.
func rolledKey(by *dice) keyRow {
	for {
		row := pick(by, keyRows)
		if by.roll(2) == 0 {
			row = runeRow(pick(by, []int{rolledRune(by), 32 + by.roll(95), 160 + by.roll(4000), pick(by, someRunes())}))
		}
		if impl.KeyOk(row.key) && !needsATick(row.text) {
			return row
		}
	}
}

func TestP5KeysAreReadFromWhatTheySend(t *testing.T) {
	by := dice(141650939)
	for range 1500 {
		var sent, texts []string
		for range by.roll(40) {
			row := rolledKey(&by)
			sent, texts = append(sent, string(impl.KeyBytes(row.key))), append(texts, row.text)
		}
		d, keys := impl.Decode(impl.Dec{}, []byte(strings.Join(sent, "")))
		wantDec(t, fmt.Sprintf("Decode %q", sent), impl.Dec{}, d, keys, plain(""), strings.Join(texts, " "))
	}
}

// With a tick behind each key all of them are told apart, in any parts of what is sent for one.
func TestP5KeysAreReadWithTicks(t *testing.T) {
	by := dice(160481183)
	rows := someKeys()
	now := impl.Dec{}
	for range 20000 {
		row := pick(&by, rows)
		sent := impl.KeyBytes(row.key)
		at := by.roll(len(sent) + 1)
		first, keys := impl.Decode(now, sent[:at])
		second, more := impl.Decode(first, sent[at:])
		ticked, left := impl.DecTick(second)
		if all := append(append(keys, more...), left...); len(all) != 1 || all[0] != row.key || !sameDec(ticked, impl.Dec{}) {
			t.Fatalf("%q, cut at %d, and a tick are %v, and then %s; want %v", sent, at, all, brief(ticked), row.key)
		}
		now = ticked
	}
}

func TestP5EveryRuneIsReadFromItsBytes(t *testing.T) {
	for r := 128; r <= impl.MaxRune; r++ {
		whole := bytesOfRune(r)
		if len(whole) == 0 {
			continue
		}
		want := impl.Key{Kind: impl.KeyRune, R: r}
		if !modelShown(r) {
			want = impl.Key{Kind: impl.KeyBad}
		}
		d, keys := impl.Decode(impl.Dec{}, whole)
		if len(keys) != 1 || keys[0] != want || !sameDec(d, impl.Dec{}) {
			t.Fatalf("%q is %v, and then %s; want %v", whole, keys, brief(d), want)
		}
		at := 1 + r%(len(whole)-1)
		d, keys = impl.Decode(impl.Dec{}, whole[:at])
		if len(keys) > 0 || !sameDec(d, plain(string(whole[:at]))) {
			t.Fatalf("%q is %v, and then %s", whole[:at], keys, brief(d))
		}
	}
}

// Every row of six of these bytes, from a new decoder.
func TestP5OfAllShortRowsOfBytes(t *testing.T) {
	for _, signs := range []string{"\x1b[O3~A", "\x1b[1;Aa", "\xe4\xb8\xad\xc3\x1ba", "\xf0\x9f\x98\x80\xff[", "\x1b\x00 \x7f\xc2\x85"} {
		wantKeysOfAllRows(t, impl.Dec{}, signs, 6)
		wantKeysOfAllRows(t, csi("123456"), signs, 5)
	}
}

func wantKeysOfAllRows(t *testing.T, now impl.Dec, signs string, most int) {
	t.Helper()
	if most == 0 {
		return
	}
	for i := range len(signs) {
		next, keys := impl.DecByte(now, int(signs[i]))
		if want, texts := modelDecByte(now, int(signs[i])); !sameDec(next, want) || textOfKeys(keys) != texts || len(keys) > 2 {
			t.Fatalf("DecByte %d of %s is %s, %s; want %s, %s", signs[i], brief(now), brief(next), textOfKeys(keys), brief(want), texts)
		}
		wantKeysOfAllRows(t, next, signs, most-1)
	}
}

// Bytes of which each is as likely as any other, in one go and byte by byte.
func TestP5OfAnyBytes(t *testing.T) {
	for seed := range uint32(60) {
		text := string(someBytes(400, seed*77+5))
		want, texts := modelDecode(impl.Dec{}, text)
		whole, keys := impl.Decode(impl.Dec{}, []byte(text))
		wantDec(t, "Decode of any bytes", impl.Dec{}, whole, keys, want, texts)
		one, ones := byDecByte(impl.Dec{}, text)
		wantDec(t, "DecByte of any bytes", impl.Dec{}, one, ones, want, texts)
		wantNothingWaits(t, whole)
	}
}
