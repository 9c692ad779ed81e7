package tests

import (
	"bytes"
	"encoding/binary"
	"hash/crc32"
	"slices"
	"strings"

	"loop.example/g00600/impl"
)

// The model is chapter 6 by the library's own numbers and sums: a record is read where writing what it says gives its bytes again.

func modelEntry(e impl.Entry) bool {
	return e.Num > 0 && e.Num < 1000000001 && e.Text != "" && len(e.Text) < 1001
}

func modelEntries(l []impl.Entry) bool {
	for i, e := range l {
		if !modelEntry(e) || e.Num != l[0].Num+i {
			return false
		}
	}
	return true
}

// frameOf writes a record by the form alone, whether it is right or not; the sum is right.
func frameOf(length int, num int, text string) []byte {
	b := binary.BigEndian.AppendUint16(nil, uint16(length))
	b = binary.BigEndian.AppendUint32(b, uint32(num))
	sum := crc32.ChecksumIEEE(append(bytes.Clone(b), text...))
	return append(binary.BigEndian.AppendUint32(b, sum), text...)
}

func modelFrame(e impl.Entry) ([]byte, bool) {
	if !modelEntry(e) {
		return nil, false
	}
	return frameOf(len(e.Text), e.Num, e.Text), true
}

func modelFrameRead(b []byte, at int) (impl.Entry, int, int) {
	refused := func(code int) (impl.Entry, int, int) { return impl.Entry{}, 0, code }
	if at < 0 || at > len(b) {
		return refused(1)
	}
	rest := b[at:]
	if len(rest) < 10 {
		return refused(2)
	}
	length := int(binary.BigEndian.Uint16(rest))
	if length == 0 || length > 1000 {
		return refused(3)
	}
	if len(rest) < 10+length {
		return refused(4)
	}
	e := impl.Entry{Num: int(binary.BigEndian.Uint32(rest[2:])), Text: string(rest[10 : 10+length])}
	frame, ok := modelFrame(e)
	if !ok {
		return refused(5)
	}
	if !bytes.HasPrefix(rest, frame) {
		return refused(6)
	}
	return e, at + len(frame), 0
}

func modelScan(b []byte) ([]impl.Entry, int) {
	var out []impl.Entry
	place := 0
	for {
		e, next, code := modelFrameRead(b, place)
		if code != 0 || len(out) > 0 && e.Num-out[len(out)-1].Num != 1 {
			return out, place
		}
		out, place = append(out, e), next
	}
}

func modelLog(l []impl.Entry) ([]byte, bool) {
	var out []byte
	for _, e := range l {
		frame, _ := modelFrame(e)
		out = append(out, frame...)
	}
	if !modelEntries(l) || len(out) > 65536 {
		return nil, false
	}
	return out, true
}

// modelLast takes the first away, again and again, until no more than n are left.
func modelLast(l []impl.Entry, n int) []impl.Entry {
	for len(l) > 0 && len(l) > n {
		l = l[1:]
	}
	return l
}

func cloneEntries(l []impl.Entry) []impl.Entry {
	var out []impl.Entry
	for _, e := range l {
		out = append(out, impl.Entry{Num: e.Num, Text: strings.Clone(e.Text)})
	}
	return out
}

// roomyEntries tells l with spare room behind it, its texts in memory of their own, and whether all of that is as it was.
func roomyEntries(l []impl.Entry) (arg []impl.Entry, untouched func() bool) {
	whole := append(cloneEntries(l), impl.Entry{Num: 77, Text: "behind"}, impl.Entry{Num: -3}, impl.Entry{Num: 5, Text: "further"})
	before := cloneEntries(whole)
	return whole[:len(l)], func() bool { return slices.Equal(whole, before) }
}

// spoilEntries overwrites all that a list's memory can reach.
func spoilEntries(l []impl.Entry) {
	l = l[:cap(l)]
	for i := range l {
		l[i] = impl.Entry{Num: -l[i].Num - 1, Text: "spoilt"}
	}
}

// entriesFrom tells entries whose Nums rise by one from first on.
func entriesFrom(first int, texts ...string) []impl.Entry {
	var out []impl.Entry
	for i, s := range texts {
		out = append(out, impl.Entry{Num: first + i, Text: s})
	}
	return out
}

// someTexts are of one byte, of some, of bytes that look like the fields of a record, of bytes that are no text, and as long as may be.
func someTexts() []string {
	return []string{"a", "\x00", "\n", "\xff", "ls -l", "two\nlines\n", string(frameOf(1, 1, "a")), strings.Repeat("\x00", 12), string(someBytes(256, 3)), "caf\u00e9 \U0001f600", strings.Repeat("x", 999), string(someBytes(1000, 4))}
}
