package tests

import (
	"bytes"
	"strings"
	"testing"

	"loop.example/g00600/impl"
)

func TestRecordLimits(t *testing.T) {
	if impl.MaxText != 1000 || impl.MaxSeq != 1000000000 {
		t.Errorf("MaxText and MaxSeq are %d and %d", impl.MaxText, impl.MaxSeq)
	}
}

// edgeNums are the Nums at and beside the edges of what is right, and far from it.
func edgeNums() []int {
	return append(extremes(), 2, 255, 256, 65536, impl.MaxSeq-1, impl.MaxSeq, impl.MaxSeq+1)
}

func TestEntryOkOfNums(t *testing.T) {
	for _, n := range edgeNums() {
		want := n >= 1 && n <= 1000000000
		if got := impl.EntryOk(impl.Entry{Num: n, Text: "a"}); got != want {
			t.Errorf("EntryOk with the Num %d is %v", n, got)
		}
	}
}

func TestEntryOkOfTexts(t *testing.T) {
	for _, n := range []int{0, 1, 2, 10, 255, 256, 999, 1000, 1001, 1002, 2000, 65535, 65536, 65537, 66536} {
		want := n >= 1 && n <= 1000
		for _, sign := range []string{"a", "\x00", "\xff"} {
			if got := impl.EntryOk(impl.Entry{Num: 7, Text: strings.Repeat(sign, n)}); got != want {
				t.Errorf("EntryOk with %d times %q is %v", n, sign, got)
			}
		}
	}
	// Bytes are counted, not runes.
	if !impl.EntryOk(impl.Entry{Num: 7, Text: strings.Repeat("\u00e9", 500)}) || impl.EntryOk(impl.Entry{Num: 7, Text: strings.Repeat("\u00e9", 501)}) {
		t.Error("EntryOk counts runes")
	}
	if impl.EntryOk(impl.Entry{}) {
		t.Error("nothing is a right entry")
	}
}

func wantEntries(t *testing.T, what string, l []impl.Entry, want bool) {
	t.Helper()
	if got := impl.EntriesOk(l); got != want || modelEntries(l) != want {
		t.Errorf("%s: EntriesOk is %v; want %v", what, got, want)
	}
}

func nums(l ...int) []impl.Entry {
	var out []impl.Entry
	for _, n := range l {
		out = append(out, impl.Entry{Num: n, Text: "a"})
	}
	return out
}

func TestEntriesOk(t *testing.T) {
	const top = impl.MaxSeq
	wantEntries(t, "nil", nil, true)
	wantEntries(t, "empty", []impl.Entry{}, true)
	wantEntries(t, "one", nums(1), true)
	wantEntries(t, "one from the midst", nums(500), true)
	wantEntries(t, "the last one", nums(top), true)
	wantEntries(t, "none such", nums(0), false)
	wantEntries(t, "one too great", nums(top+1), false)
	wantEntries(t, "rising by one", nums(3, 4, 5, 6), true)
	wantEntries(t, "rising to the last", nums(top-2, top-1, top), true)
	wantEntries(t, "rising beyond the last", nums(top-1, top, top+1), false)
	wantEntries(t, "rising from nought", nums(0, 1, 2), false)
	wantEntries(t, "rising from below", nums(-1, 0, 1), false)
	wantEntries(t, "standing still", nums(3, 3), false)
	wantEntries(t, "standing still later", nums(3, 4, 4, 5), false)
	wantEntries(t, "leaping", nums(3, 5), false)
	wantEntries(t, "leaping later", nums(3, 4, 6), false)
	wantEntries(t, "leaping and back", nums(3, 5, 5), false)
	wantEntries(t, "falling", nums(4, 3), false)
	wantEntries(t, "falling later", nums(3, 4, 3), false)
	wantEntries(t, "falling far", nums(top, 1), false)
	wantEntries(t, "wrapping round", nums(1<<63-1, -1<<63), false)
	for at := range 4 {
		l := nums(8, 9, 10, 11)
		l[at].Text = ""
		wantEntries(t, "an empty text", l, false)
		l[at].Text = strings.Repeat("x", 1001)
		wantEntries(t, "a text that is too long", l, false)
		l[at].Text = strings.Repeat("x", 1000)
		wantEntries(t, "a text that is as long as may be", l, true)
	}
	wantEntries(t, "more than a log holds", nums(manyNums(70000)...), true)
}

func manyNums(n int) []int {
	var out []int
	for i := range n {
		out = append(out, i+1)
	}
	return out
}

// The bytes here were worked out apart from every function of the program.
func TestFrameBytesWrittenOut(t *testing.T) {
	cases := []struct {
		num        int
		text, want string
	}{
		{7, "ls", "\x00\x02\x00\x00\x00\x07\xf7\xb6\xdc\xe8" + "ls"},
		{1, "a", "\x00\x01\x00\x00\x00\x01\x75\x9e\x6c\x54" + "a"},
		{impl.MaxSeq, "\x00", "\x00\x01\x3b\x9a\xca\x00\xce\x04\x97\x1a" + "\x00"},
	}
	for _, c := range cases {
		got, ok := impl.FrameBytes(impl.Entry{Num: c.num, Text: c.text})
		if !ok || string(got) != c.want {
			t.Errorf("FrameBytes of %d, %q is %x, %v; want %x", c.num, c.text, got, ok, c.want)
		}
	}
}

func wantFrame(t *testing.T, e impl.Entry) []byte {
	t.Helper()
	want, wantOk := modelFrame(e)
	got, ok := impl.FrameBytes(e)
	if ok != wantOk || !bytes.Equal(got, want) {
		t.Fatalf("FrameBytes of %d and %d bytes is %x, %v; want %x, %v", e.Num, len(e.Text), got, ok, want, wantOk)
	}
	return got
}

func TestFrameBytes(t *testing.T) {
	for _, text := range someTexts() {
		for _, n := range edgeNums() {
			got := wantFrame(t, impl.Entry{Num: n, Text: text})
			if n < 1 || n > impl.MaxSeq {
				if got != nil {
					t.Errorf("FrameBytes with the Num %d is %x", n, got)
				}
				continue
			}
			if len(got) != 10+len(text) || string(got[10:]) != text {
				t.Errorf("the text %q isn't behind the ten bytes of its record: %x", text, got)
			}
		}
	}
	for _, n := range []int{0, 1, 2, 255, 256, 257, 999, 1000, 1001, 1002, 65536, 65537, 66000} {
		got := wantFrame(t, impl.Entry{Num: 7, Text: strings.Repeat("y", n)})
		if want := n >= 1 && n <= 1000; (got != nil) != want {
			t.Errorf("FrameBytes of a text of %d bytes is there: %v", n, got != nil)
		}
	}
	for n := range 256 {
		wantFrame(t, impl.Entry{Num: n + 1, Text: string([]byte{byte(n)})})
		wantFrame(t, impl.Entry{Num: 1 + n<<20, Text: strings.Repeat("z", n+700)})
	}
}

func wantFrameRead(t *testing.T, b []byte, at int) (impl.Entry, int, int) {
	t.Helper()
	want, wantNext, wantCode := modelFrameRead(b, at)
	e, next, code := impl.FrameRead(b, at)
	if e != want || next != wantNext || code != wantCode {
		t.Fatalf("FrameRead of %x at %d is %#v, %d, %d; want %#v, %d, %d", b, at, e, next, code, want, wantNext, wantCode)
	}
	return e, next, code
}

// wantCode asks for a code that is told, with nothing beside it.
func wantCode(t *testing.T, what string, b []byte, at int, want int) {
	t.Helper()
	e, next, code := impl.FrameRead(b, at)
	if e != (impl.Entry{}) || next != 0 || code != want {
		t.Errorf("%s: FrameRead is %#v, %d, %d; want nothing, 0 and %d", what, e, next, code, want)
	}
	wantFrameRead(t, b, at)
}

func TestFrameReadOfWhatIsWritten(t *testing.T) {
	for _, text := range someTexts() {
		for _, n := range []int{1, 2, 255, 256, 65535, 1 << 24, impl.MaxSeq - 1, impl.MaxSeq} {
			want := impl.Entry{Num: n, Text: text}
			frame, _ := impl.FrameBytes(want)
			for _, ahead := range []int{0, 1, 10, 300} {
				for _, behind := range []int{0, 1, 10, 300} {
					b := append(append(someBytes(ahead, 1), frame...), someBytes(behind, 2)...)
					e, next, code := wantFrameRead(t, b, ahead)
					if e != want || next != ahead+len(frame) || code != 0 {
						t.Errorf("%d, %q is read as %d, %q, %d, %d", n, text, e.Num, e.Text, next, code)
					}
				}
			}
		}
	}
}

// A record may lie where no log can have it.
func TestFrameReadFarOn(t *testing.T) {
	b := append(make([]byte, 3*impl.MaxBytes), frameOf(2, 9, "ls")...)
	e, next, code := impl.FrameRead(b, 3*impl.MaxBytes)
	if e != (impl.Entry{Num: 9, Text: "ls"}) || next != 3*impl.MaxBytes+12 || code != 0 {
		t.Errorf("FrameRead is %#v, %d, %d", e, next, code)
	}
}

func TestFrameReadAtNoPlace(t *testing.T) {
	for _, b := range [][]byte{nil, {}, {0}, make([]byte, 9), make([]byte, 10), frameOf(2, 7, "ls"), someBytes(3000, 1)} {
		wantCode(t, "ahead of the first byte", b, -1, 1)
		wantCode(t, "behind the last byte", b, len(b)+1, 1)
		wantCode(t, "just behind the last byte", b, len(b), 2)
		for _, at := range extremes() {
			wantFrameRead(t, b, at)
			if at < 0 || at > 1<<30 {
				wantCode(t, "far from all bytes", b, at, 1)
			}
		}
	}
}

func TestFrameReadOfTooFewBytes(t *testing.T) {
	frame := frameOf(2, 7, "ls")
	for n := range 10 {
		wantCode(t, "fewer than 10 bytes", frame[:n], 0, 2)
		wantCode(t, "fewer than 10 bytes", frame, len(frame)-n, 2)
		wantCode(t, "fewer than 10 zero bytes", make([]byte, n), 0, 2)
		wantCode(t, "fewer than 10 bytes from there on", append(someBytes(20, 6), frame[:n]...), 20, 2)
	}
	wantCode(t, "10 bytes", frame[:10], 0, 4)
	wantCode(t, "10 bytes from there on", append(someBytes(20, 6), frame[:10]...), 20, 4)
	wantCode(t, "10 zero bytes", make([]byte, 10), 0, 3)
}

func TestFrameReadOfLengths(t *testing.T) {
	text := strings.Repeat("x", 70000)
	for _, length := range []int{0, 1001, 1002, 1024, 1256, 4096, 32768, 65535} {
		wantCode(t, "a length that isn't right, its bytes there", frameOf(length, 7, text[:length]), 0, 3)
		wantCode(t, "a length that isn't right, more bytes there", append(frameOf(length, 7, text[:length]), text...), 0, 3)
		wantCode(t, "a length that isn't right, no bytes there", frameOf(length, 7, ""), 0, 3)
	}
	for _, length := range []int{1, 2, 255, 256, 257, 999, 1000} {
		e, next, code := wantFrameRead(t, frameOf(length, 7, text[:length]), 0)
		if e.Num != 7 || e.Text != text[:length] || next != 10+length || code != 0 {
			t.Errorf("a text of %d bytes is read as %d bytes, %d, %d", length, len(e.Text), next, code)
		}
	}
}

func TestFrameReadOfATextThatIsNotAllThere(t *testing.T) {
	for _, length := range []int{1, 2, 3, 256, 1000} {
		frame := frameOf(length, 7, string(someBytes(length, 5)))
		for n := 10; n < len(frame); n++ {
			wantCode(t, "a text that is cut off", frame[:n], 0, 4)
		}
		wantCode(t, "a text of which one byte is missing", append([]byte{1, 2, 3}, frame[:len(frame)-1]...), 3, 4)
		wantFrameRead(t, frame, 0)
	}
}

func TestFrameReadOfNums(t *testing.T) {
	for _, n := range []int{0, impl.MaxSeq + 1, impl.MaxSeq + 2, 1 << 30, 1 << 31, 1<<32 - 1} {
		wantCode(t, "a Num that isn't right", frameOf(2, n, "ls"), 0, 5)
	}
	for _, n := range []int{1, 2, 256, 1 << 24, impl.MaxSeq - 1, impl.MaxSeq} {
		if e, _, code := wantFrameRead(t, frameOf(2, n, "ls"), 0); e.Num != n || code != 0 {
			t.Errorf("the Num %d is read as %d, %d", n, e.Num, code)
		}
	}
}

func TestFrameReadOfSums(t *testing.T) {
	for _, text := range []string{"a", "ls", string(someBytes(1000, 8))} {
		frame := frameOf(len(text), 7, text)
		for at := 6; at < 10; at++ {
			for turn := 1; turn < 256; turn++ {
				b := bytes.Clone(frame)
				b[at] ^= byte(turn)
				wantCode(t, "a sum that isn't right", b, 0, 6)
			}
		}
		b := bytes.Clone(frame)
		copy(b[6:], "\x00\x00\x00\x00")
		wantCode(t, "a sum of nought", b, 0, 6)
		b = bytes.Clone(frame)
		b[len(b)-1]++
		wantCode(t, "a text that the sum isn't of", b, 0, 6)
		b = bytes.Clone(frame)
		b[5]++
		wantCode(t, "a Num that the sum isn't of", b, 0, 6)
	}
	// The length is in the sum: the bytes of a shorter record with the sum of the longer one.
	b := frameOf(2, 7, "ls")
	b[1] = 1
	wantCode(t, "a length that the sum isn't of", b, 0, 6)
}

// spoilSum turns the sum of a record, so that it isn't right.
func spoilSum(b []byte) []byte {
	b[9] ^= 1
	return b
}

func TestFrameReadTellsTheLowestCode(t *testing.T) {
	wantCode(t, "1 ahead of 2: no bytes", nil, -1, 1)
	wantCode(t, "1 ahead of 2: few bytes", make([]byte, 4), 5, 1)
	wantCode(t, "1 ahead of 2 to 6: a record behind", frameOf(2, 7, "ls"), -1, 1)
	wantCode(t, "2 ahead of 3, 5, 6: noughts", make([]byte, 9), 0, 2)
	wantCode(t, "2 ahead of 3: a length that is too great", []byte{255, 255, 0, 0, 0, 7, 0, 0, 0}, 0, 2)
	wantCode(t, "2 ahead of 4: a length beyond the end", frameOf(500, 7, "")[:9], 0, 2)
	wantCode(t, "2 ahead of 5: a Num of nought", frameOf(1, 0, "a")[:9], 0, 2)
	wantCode(t, "2 ahead of 6: a sum that is cut off", frameOf(1, 7, "a")[:9], 0, 2)
	wantCode(t, "3 ahead of 4: a length that is too great", frameOf(1001, 7, "few"), 0, 3)
	wantCode(t, "3 ahead of 5: a Num of nought", frameOf(0, 0, ""), 0, 3)
	wantCode(t, "3 ahead of 5: a Num that is too great", frameOf(1001, impl.MaxSeq+1, strings.Repeat("x", 1001)), 0, 3)
	wantCode(t, "3 ahead of 6", spoilSum(frameOf(0, 7, "")), 0, 3)
	wantCode(t, "3 ahead of 4, 5, 6", spoilSum(frameOf(65535, 0, "")), 0, 3)
	wantCode(t, "4 ahead of 5: a Num of nought", frameOf(2, 0, "l"), 0, 4)
	wantCode(t, "4 ahead of 5: a Num that is too great", frameOf(1000, impl.MaxSeq+1, strings.Repeat("x", 999)), 0, 4)
	wantCode(t, "4 ahead of 6", spoilSum(frameOf(2, 7, "l")), 0, 4)
	wantCode(t, "4 ahead of 5, 6", spoilSum(frameOf(2, 0, "")), 0, 4)
	wantCode(t, "5 ahead of 6: a Num of nought", spoilSum(frameOf(2, 0, "ls")), 0, 5)
	wantCode(t, "5 ahead of 6: a Num that is too great", spoilSum(frameOf(2, impl.MaxSeq+1, "ls")), 0, 5)
}

// Records that are wrong in any number of ways at once, over every place in and beside them.
func TestFrameReadAtEveryPlace(t *testing.T) {
	told := map[int]int{}
	for seed := range 3000 {
		by := dice(seed * 32452843)
		text := string(someBytes(by.roll(14), uint32(seed)))
		length := pick(&by, []int{len(text), len(text), len(text), 0, 1, 1000, 1001, 65535})
		num := pick(&by, []int{1, 7, impl.MaxSeq, 0, impl.MaxSeq + 1, 1<<32 - 1})
		b := frameOf(length, num, text)
		if by.roll(3) == 0 {
			b = spoilSum(b)
		}
		b = b[:len(b)-by.roll(len(b)+1)/pick(&by, []int{1, 4, 30})]
		b = append(b, someBytes(by.roll(3)*by.roll(600), uint32(seed))...)
		for at := -2; at <= min(len(b)+2, 40); at++ {
			_, _, code := wantFrameRead(t, b, at)
			told[code]++
		}
	}
	for code := range 7 {
		if told[code] < 100 {
			t.Errorf("the code %d was told %d times alone", code, told[code])
		}
	}
}

func TestFrameReadOfShortBytes(t *testing.T) {
	for _, s := range textsOver("\x00\x01", 12) {
		for at := -1; at <= len(s)+1; at++ {
			wantFrameRead(t, []byte(s), at)
		}
	}
}

func TestRecordsAreNewMemory(t *testing.T) {
	for _, text := range someTexts() {
		e := impl.Entry{Num: 7, Text: strings.Clone(text)}
		first, _ := impl.FrameBytes(e)
		want := bytes.Clone(first)
		second, _ := impl.FrameBytes(e)
		spoil(second)
		if !bytes.Equal(first, want) || e.Text != text {
			t.Errorf("FrameBytes of %q shares memory", text)
		}
		for _, cut := range []int{0, 1, len(want) - 9, len(want)} {
			b, whole := roomy(want[:len(want)-cut])
			before := bytes.Clone(whole)
			read, _, code := impl.FrameRead(b, 0)
			if !bytes.Equal(whole, before) {
				t.Errorf("FrameRead of %q changes its argument", text)
			}
			spoil(whole)
			if code == 0 && read.Text != text {
				t.Errorf("the text %q that FrameRead tells lies in its argument", text)
			}
		}
	}
}
