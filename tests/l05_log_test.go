package tests

import (
	"bytes"
	"slices"
	"strings"
	"testing"

	"loop.example/g00600/impl"
)

func wantScan(t *testing.T, b []byte) ([]impl.Entry, int) {
	t.Helper()
	want, wantAt := modelScan(b)
	got, at := impl.Scan(b)
	if at != wantAt || !slices.Equal(got, want) {
		t.Fatalf("Scan of %x is %#v, %d; want %#v, %d", b, got, at, want, wantAt)
	}
	return got, at
}

// wantScanned asks for what Scan tells of bytes.
func wantScanned(t *testing.T, what string, b []byte, want []impl.Entry, wantAt int) {
	t.Helper()
	got, at := impl.Scan(b)
	if at != wantAt || !slices.Equal(got, want) {
		t.Errorf("%s: Scan is %#v, %d; want %#v, %d", what, got, at, want, wantAt)
	}
	wantScan(t, b)
}

// framesOf writes entries one behind the other, whatever their Nums.
func framesOf(l []impl.Entry) []byte {
	var out []byte
	for _, e := range l {
		out = append(out, frameOf(len(e.Text), e.Num, e.Text)...)
	}
	return out
}

func TestScanOfNoRecords(t *testing.T) {
	wantScanned(t, "nil", nil, nil, 0)
	wantScanned(t, "no bytes", []byte{}, nil, 0)
	for n := range 40 {
		wantScanned(t, "noughts", make([]byte, n), nil, 0)
		wantScanned(t, "ones", bytes.Repeat([]byte{255}, n), nil, 0)
	}
	frame := frameOf(2, 7, "ls")
	wantScanned(t, "a byte ahead of a record", append([]byte{0}, frame...), nil, 0)
	wantScanned(t, "a record without its first byte", frame[1:], nil, 0)
	wantScanned(t, "a Num of nought", frameOf(2, 0, "ls"), nil, 0)
	wantScanned(t, "a Num that is too great", frameOf(2, impl.MaxSeq+1, "ls"), nil, 0)
	wantScanned(t, "a sum that isn't right", spoilSum(bytes.Clone(frame)), nil, 0)
	wantScanned(t, "a record that isn't right ahead of one that is", append(spoilSum(bytes.Clone(frame)), frame...), nil, 0)
}

func TestScanOfWholeLogs(t *testing.T) {
	wantScanned(t, "one", frameOf(2, 7, "ls"), entriesFrom(7, "ls"), 12)
	wantScanned(t, "two", framesOf(entriesFrom(3, "a", "bc")), entriesFrom(3, "a", "bc"), 23)
	for _, first := range []int{1, 2, 255, 65535, impl.MaxSeq - 20} {
		l := entriesFrom(first, someTexts()...)
		for n := range len(l) + 1 {
			b := framesOf(l[:n])
			wantScanned(t, "some", b, l[:n], len(b))
		}
	}
	last := entriesFrom(impl.MaxSeq-1, "one ahead", "the last")
	wantScanned(t, "up to the last Num", framesOf(last), last, len(framesOf(last)))
	beyond := entriesFrom(impl.MaxSeq-1, "one ahead", "the last", "beyond")
	wantScanned(t, "beyond the last Num", framesOf(beyond), last, len(framesOf(last)))
}

// A file may be longer than what one call writes.
func TestScanOfMoreThanALogHolds(t *testing.T) {
	l := entriesFrom(5, slices.Repeat([]string{string(someBytes(1000, 5))}, 200)...)
	b := framesOf(l)
	if len(b) <= 3*impl.MaxBytes {
		t.Fatal("the test itself is wrong")
	}
	wantScanned(t, "a long file", b, l, len(b))
	wantScanned(t, "a long file that is torn", b[:len(b)-1], l[:199], 199*1010)
}

func TestScanOfNumsThatDoNotFollow(t *testing.T) {
	const top = impl.MaxSeq
	cases := []struct {
		what string
		nums []int
		read int
	}{
		{"rising by one", []int{3, 4, 5}, 3},
		{"standing still", []int{3, 3, 4}, 1},
		{"standing still later", []int{3, 4, 4, 5}, 2},
		{"leaping", []int{3, 5, 6}, 1},
		{"leaping later", []int{3, 4, 6, 7}, 2},
		{"leaping and back", []int{3, 5, 4, 5}, 1},
		{"falling", []int{4, 3, 4}, 1},
		{"falling later", []int{4, 5, 4, 5}, 2},
		{"falling to the first", []int{3, 4, 1, 2}, 2},
		{"rising from the first", []int{1, 2, 3}, 3},
		{"from far on", []int{top - 1, top}, 2},
		{"back from the last", []int{top, 1}, 1},
		{"to nought", []int{1, 0}, 1},
	}
	for _, c := range cases {
		l := nums(c.nums...)
		wantScanned(t, c.what, framesOf(l), l[:c.read], 11*c.read)
	}
}

func TestScanOfTornLogs(t *testing.T) {
	for _, l := range [][]impl.Entry{entriesFrom(1, "a"), entriesFrom(9, "a", "bc", "def"), entriesFrom(impl.MaxSeq-11, someTexts()...)} {
		b := framesOf(l)
		whole, end := 0, 0
		for n := range len(b) + 1 {
			if whole < len(l) && n == end+10+len(l[whole].Text) {
				end = n
				whole++
			}
			if got, at := impl.Scan(b[:n]); at != end || !slices.Equal(got, l[:whole]) {
				t.Fatalf("of a log torn at %d there are %d read up to %d; want %d up to %d", n, len(got), at, whole, end)
			}
		}
		if whole != len(l) {
			t.Fatal("the test itself is wrong")
		}
	}
}

func TestScanOfBytesBehindTheLastRecord(t *testing.T) {
	l := entriesFrom(9, "a", "bc", "def")
	b := framesOf(l)
	for _, behind := range []string{"\x00", "\x00\x01", "\xff", "\n", "some text behind it", strings.Repeat("\x00", 10), strings.Repeat("\x00", 100), string(frameOf(0, 12, "")), string(frameOf(1, 0, "a")), string(frameOf(1001, 12, strings.Repeat("x", 1001))), string(spoilSum(frameOf(1, 12, "a"))), string(frameOf(1, 9, "a")), string(frameOf(1, 11, "a")), string(frameOf(1, 13, "a"))} {
		wantScanned(t, "something behind", append(bytes.Clone(b), behind...), l, len(b))
		// What stands behind bytes that are no record is never reached.
		wantScanned(t, "a record behind that", append(append(bytes.Clone(b), behind...), frameOf(1, 12, "a")...), l, len(b))
	}
	next := append(bytes.Clone(b), frameOf(1, 12, "x")...)
	wantScanned(t, "the next record behind", next, entriesFrom(9, "a", "bc", "def", "x"), len(next))
}

func TestScanOfShortBytes(t *testing.T) {
	for _, s := range textsOver("\x00\x01", 13) {
		wantScan(t, []byte(s))
	}
	for seed := range 400 {
		wantScan(t, someBytes(seed%50, uint32(seed)))
	}
}

func wantLog(t *testing.T, l []impl.Entry) ([]byte, bool) {
	t.Helper()
	want, wantOk := modelLog(l)
	got, ok := impl.LogBytes(l)
	if ok != wantOk || !bytes.Equal(got, want) {
		t.Fatalf("LogBytes of %d entries is %d bytes, %v; want %d bytes, %v", len(l), len(got), ok, len(want), wantOk)
	}
	return got, ok
}

func TestLogBytes(t *testing.T) {
	for _, l := range [][]impl.Entry{nil, {}} {
		if got, ok := impl.LogBytes(l); !ok || len(got) != 0 {
			t.Errorf("LogBytes of no entries is %x, %v", got, ok)
		}
	}
	got, ok := impl.LogBytes(entriesFrom(3, "a", "bc"))
	if !ok || string(got) != string(frameOf(1, 3, "a"))+string(frameOf(2, 4, "bc")) {
		t.Errorf("LogBytes of two entries is %x, %v", got, ok)
	}
	for _, first := range []int{1, 77, impl.MaxSeq - 11} {
		l := entriesFrom(first, someTexts()...)
		for from := range len(l) + 1 {
			for to := from; to <= len(l); to++ {
				if _, ok := wantLog(t, l[from:to]); !ok {
					t.Fatalf("LogBytes of %d right entries is false", to-from)
				}
			}
		}
	}
}

// logOf tells entries whose log has just that many bytes: as many of the given length as leave room for one more.
func logOf(size int, length int) []impl.Entry {
	n := (size - 11) / (length + 10)
	texts := slices.Repeat([]string{strings.Repeat("x", length)}, n)
	rest := size - n*(length+10) - 10
	return entriesFrom(impl.MaxSeq-n, append(texts, strings.Repeat("y", rest))...)
}

func TestLogBytesAtItsLimit(t *testing.T) {
	for _, length := range []int{1, 2, 9, 100, 999, 1000} {
		for _, size := range []int{65525, 65535, 65536, 65537, 65538, 65547} {
			got, ok := wantLog(t, logOf(size, length))
			if want := size <= 65536; ok != want || ok && len(got) != size {
				t.Errorf("LogBytes of %d bytes is %d bytes, %v", size, len(got), ok)
			}
		}
	}
	if _, ok := wantLog(t, nums(manyNums(5957)...)); !ok {
		t.Error("65527 bytes in small records are refused")
	}
	if _, ok := wantLog(t, nums(manyNums(5958)...)); ok {
		t.Error("65538 bytes in small records are written")
	}
	wantLog(t, nums(manyNums(20000)...))
}

func TestLogBytesOfListsThatAreNotRight(t *testing.T) {
	const top = impl.MaxSeq
	lists := [][]impl.Entry{nums(0), nums(-1), nums(top + 1), nums(0, 1), nums(top, top+1), nums(3, 3), nums(3, 5), nums(4, 3), nums(3, 4, 4), nums(3, 4, 6), nums(3, 4, 3), nums(1<<32, 1<<32+1), {{}}, {{Text: "a"}}, {{Num: 1}}, entriesFrom(1, "a", ""), entriesFrom(1, "", "a"), entriesFrom(1, "a", "", "b"), entriesFrom(1, strings.Repeat("x", 1001)), entriesFrom(1, "a", strings.Repeat("x", 1001))}
	for _, l := range lists {
		if got, ok := impl.LogBytes(l); ok || got != nil {
			t.Errorf("LogBytes of %#v is %x, %v; want nothing and false", l, got, ok)
		}
		wantLog(t, l)
	}
	long := logOf(70000, 1000)
	long[len(long)-1].Num = 1
	wantLog(t, long)
}

func wantLast(t *testing.T, l []impl.Entry, n int) []impl.Entry {
	t.Helper()
	got := impl.LastOf(l, n)
	if want := modelLast(l, n); !slices.Equal(got, want) {
		t.Fatalf("the last %d of %#v are %#v; want %#v", n, l, got, want)
	}
	return got
}

func TestLastOf(t *testing.T) {
	l := entriesFrom(3, "a", "bc", "d")
	for n, want := range map[int][]impl.Entry{-2: nil, -1: nil, 0: nil, 1: l[2:], 2: l[1:], 3: l, 4: l, 5: l, 1000: l} {
		if got := impl.LastOf(l, n); !slices.Equal(got, want) {
			t.Errorf("the last %d are %#v; want %#v", n, got, want)
		}
	}
	for size := range 20 {
		l := entriesFrom(5, slices.Repeat([]string{"text"}, size)...)
		for n := -2; n <= size+2; n++ {
			if got := wantLast(t, l, n); len(got) != min(max(n, 0), size) {
				t.Errorf("the last %d of %d are %d", n, size, len(got))
			}
		}
		for _, n := range extremes() {
			wantLast(t, l, n)
		}
	}
}

// No rule for the entries stands there: any list has its last ones.
func TestLastOfEntriesThatAreNotRight(t *testing.T) {
	l := []impl.Entry{{}, {Num: -5, Text: "a"}, {Num: 9}, {Num: 9, Text: strings.Repeat("x", 2000)}, {Num: 1<<63 - 1, Text: "\xff"}, {Num: -1 << 63}}
	for n := -1; n <= len(l)+1; n++ {
		wantLast(t, l, n)
	}
}

// textsApart says whether no text of out lies in the memory of one of those given.
func textsApart(out []impl.Entry, given []impl.Entry) bool {
	for _, e := range out {
		if slices.ContainsFunc(given, func(g impl.Entry) bool { return textsMeet(e.Text, g.Text) }) {
			return false
		}
	}
	return true
}

func TestLastOfIsNewMemory(t *testing.T) {
	l := entriesFrom(3, someTexts()...)
	for n := -1; n <= len(l)+1; n++ {
		arg, untouched := roomyEntries(l)
		first := impl.LastOf(arg, n)
		want := cloneEntries(first)
		if !untouched() || !textsApart(first, arg) {
			t.Errorf("LastOf with %d changes its list, or tells texts that lie in it", n)
		}
		spoilEntries(impl.LastOf(arg, n))
		if !untouched() || !slices.Equal(first, want) {
			t.Errorf("an answer of LastOf with %d shares memory", n)
		}
		spoilEntries(arg)
		if !slices.Equal(first, want) {
			t.Errorf("the answer of LastOf with %d lies in its list", n)
		}
	}
}

func TestLogsAreNewMemory(t *testing.T) {
	for _, l := range [][]impl.Entry{nil, entriesFrom(7, "ls"), entriesFrom(3, someTexts()...), nums(3, 5), logOf(65537, 1000)} {
		arg, untouched := roomyEntries(l)
		impl.EntriesOk(arg)
		first, _ := impl.LogBytes(arg)
		want := bytes.Clone(first)
		second, _ := impl.LogBytes(arg)
		spoil(second)
		if !untouched() || !bytes.Equal(first, want) {
			t.Errorf("LogBytes of %d entries changes its list, or shares memory", len(l))
		}
		b, whole := roomy(want)
		before := bytes.Clone(whole)
		read, _ := impl.Scan(b)
		again, _ := impl.Scan(b)
		if !bytes.Equal(whole, before) {
			t.Errorf("Scan of %d bytes changes them", len(b))
		}
		wantRead := cloneEntries(read)
		spoilEntries(again)
		spoil(whole)
		if !slices.Equal(read, wantRead) {
			t.Errorf("what Scan tells of %d bytes lies in them, or in another answer", len(b))
		}
	}
}
