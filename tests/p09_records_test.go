package tests

import (
	"bytes"
	"slices"
	"testing"

	"loop.example/g00600/impl"
)

// rolledEntries is a right list of at most max entries, of short texts and of long ones.
func rolledEntries(by *dice, max int) []impl.Entry {
	var texts []string
	for range by.roll(max + 1) {
		long := pick(by, []int{1, 2, 8, 40})
		if by.roll(30) == 0 {
			long = impl.MaxText
		}
		texts = append(texts, string(someBytes(1+by.roll(long), uint32(by.roll(1<<20)))))
	}
	first := pick(by, []int{1, 1 + by.roll(500), impl.MaxSeq - by.roll(200) - len(texts), impl.MaxSeq + 1 - max})
	return entriesFrom(first, texts...)
}

// endsOf are the places behind each record of a log, with 0 ahead of the first.
func endsOf(l []impl.Entry) []int {
	out := []int{0}
	for _, e := range l {
		out = append(out, out[len(out)-1]+10+len(e.Text))
	}
	return out
}

func writtenLog(t *testing.T, l []impl.Entry) []byte {
	t.Helper()
	b, ok := impl.LogBytes(l)
	if !ok || !impl.EntriesOk(l) {
		t.Fatalf("the right list %#v isn't written", l)
	}
	return b
}

func wantReadUpTo(t *testing.T, what string, b []byte, l []impl.Entry, end int) {
	t.Helper()
	if got, at := impl.Scan(b); at != end || !slices.Equal(got, l) {
		t.Fatalf("%s: %d records are read, up to %d; want %d, up to %d", what, len(got), at, len(l), end)
	}
}

func TestP9WhatIsWrittenIsRead(t *testing.T) {
	for seed := range 1500 {
		by := dice(seed * 49979687)
		l := rolledEntries(&by, 12)
		b := writtenLog(t, l)
		ends := endsOf(l)
		wantReadUpTo(t, "written", b, l, len(b))
		for i, e := range l {
			frame, ok := impl.FrameBytes(e)
			if !ok || !bytes.Equal(frame, b[ends[i]:ends[i+1]]) {
				t.Fatalf("the record %d of a log isn't the record alone", i)
			}
			if got, next, code := impl.FrameRead(b, ends[i]); got != e || next != ends[i+1] || code != 0 {
				t.Fatalf("the record %d of a log is read as %#v, %d, %d", i, got, next, code)
			}
		}
		// Logs follow one another, and what is last in one is a log too.
		at := by.roll(len(l) + 1)
		parts := append(writtenLog(t, l[:at]), writtenLog(t, impl.LastOf(l, len(l)-at))...)
		if !bytes.Equal(parts, b) {
			t.Fatalf("a log in two parts, %d entries in the first, isn't the log", at)
		}
	}
}

func TestP9OfTornLogs(t *testing.T) {
	for seed := range 300 {
		by := dice(seed * 67867967)
		l := rolledEntries(&by, 8)
		b := writtenLog(t, l)
		ends := endsOf(l)
		for n := range len(b) + 1 {
			whole := 0
			for whole < len(l) && ends[whole+1] <= n {
				whole++
			}
			wantReadUpTo(t, "torn", b[:n], l[:whole], ends[whole])
		}
	}
}

// wantEndAhead asks that with a byte turned behind the length of a record the reading ends ahead of that record.
func wantEndAhead(t *testing.T, b []byte, l []impl.Entry, record int, place int, turns []int) {
	t.Helper()
	ends := endsOf(l)
	for _, turn := range turns {
		b[ends[record]+place] ^= byte(turn)
		wantReadUpTo(t, "turned", b, l[:record], ends[record])
		if e, next, code := impl.FrameRead(b, ends[record]); e != (impl.Entry{}) || next != 0 || code < 5 || code > 6 {
			t.Fatalf("a record whose byte %d is turned by %d is read as %#v, %d, %d", place, turn, e, next, code)
		}
		b[ends[record]+place] ^= byte(turn)
	}
}

func allTurns() []int {
	return manyNums(255)
}

func TestP9OfEveryTurnedByte(t *testing.T) {
	for _, l := range [][]impl.Entry{entriesFrom(1, "a", "bc", "def"), entriesFrom(impl.MaxSeq-2, "\x00\x00", "\xff", "ls -l"), entriesFrom(255, "x", "y")} {
		b := writtenLog(t, l)
		for record, e := range l {
			for place := 2; place < 10+len(e.Text); place++ {
				wantEndAhead(t, b, l, record, place, allTurns())
			}
		}
		wantReadUpTo(t, "turned back", b, l, len(b))
	}
}

func TestP9OfTurnedBytesInLongTexts(t *testing.T) {
	l := entriesFrom(40, "ahead", string(someBytes(impl.MaxText, 11)), "behind")
	b := writtenLog(t, l)
	for place := 2; place < 10+impl.MaxText; place++ {
		wantEndAhead(t, b, l, 1, place, []int{1, 128, 255})
	}
}

func TestP9OfRolledTurnedBytes(t *testing.T) {
	for seed := range 200 {
		by := dice(seed * 86028121)
		l := rolledEntries(&by, 6)
		b := writtenLog(t, l)
		for record, e := range l {
			for place := 2; place < 10+len(e.Text); place++ {
				wantEndAhead(t, b, l, record, place, []int{1 + by.roll(255)})
			}
		}
	}
}

// A turned length may say anything; the records ahead of it are read all the same.
func TestP9OfTurnedLengths(t *testing.T) {
	l := entriesFrom(9, "a", "bc", string(someBytes(700, 2)), "d")
	b := writtenLog(t, l)
	ends := endsOf(l)
	for record := range l {
		for place := range 2 {
			for _, turn := range allTurns() {
				b[ends[record]+place] ^= byte(turn)
				got, at := wantScan(t, b)
				if at < ends[record] || len(got) < record || !slices.Equal(got[:record], l[:record]) {
					t.Fatalf("ahead of a turned length %d records are read, up to %d", len(got), at)
				}
				b[ends[record]+place] ^= byte(turn)
			}
		}
	}
}

// Bytes with no order, pieces of logs and turned bytes, one behind the other: what is read is there, byte for byte, and no more is.
func TestP9NothingElseIsRead(t *testing.T) {
	for seed := range 1500 {
		by := dice(seed * 122949823)
		b := framesOf(rolledEntries(&by, 5))
		for range by.roll(3) {
			piece := framesOf(rolledEntries(&by, 3))
			b = append(b, piece[by.roll(len(piece)+1)/4:]...)
		}
		for range by.roll(3) * min(len(b), 1) {
			b[by.roll(len(b))] ^= byte(by.roll(256))
		}
		b = append(b, someBytes(by.roll(20), uint32(seed))...)
		got, at := wantScan(t, b)
		if again := writtenLog(t, got); !bytes.Equal(again, b[:at]) {
			t.Fatalf("what Scan tells of %x isn't what stands there", b)
		}
		wantReadUpTo(t, "what was read", b[:at], got, at)
	}
}
