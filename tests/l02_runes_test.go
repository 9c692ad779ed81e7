package tests

import (
	"bytes"
	"slices"
	"strings"
	"testing"

	"loop.example/g00600/impl"
)

// isRune and bytesOfRune are chapter 3 in numbers, with nothing of the library in them.
func isRune(r int) bool {
	return 0 <= r && r < 55296 || 57343 < r && r <= 1114111
}

func bytesOfRune(r int) []byte {
	tail := func(shift int) byte { return byte(128 + r/shift%64) }
	switch {
	case !isRune(r):
		return nil
	case r < 128:
		return []byte{byte(r)}
	case r < 2048:
		return []byte{byte(192 + r/64), tail(1)}
	case r < 65536:
		return []byte{byte(224 + r/4096), tail(64), tail(1)}
	}
	return []byte{byte(240 + r/262144), tail(4096), tail(64), tail(1)}
}

// runeEdges are the numbers at which the chapter's forms and ranges begin and end.
func runeEdges() []int {
	return []int{-1, 0, 1, 9, 10, 31, 32, 126, 127, 128, 159, 160, 2047, 2048, 55295, 55296, 57343, 57344, 65533, 65535, 65536, impl.MaxRune, impl.MaxRune + 1}
}

// farInts are no runes, though some of them are one in their low 32 bits.
func farInts() []int {
	far := []int{-2, -97, -128, impl.MaxRune + 2, 1 << 21, 1<<21 + 97, 1<<32 + 97, 1<<32 + 32, 1<<32 + 20013, -1<<32 + 97, 1<<40 + 233, 1<<62 + 97}
	for _, n := range extremes() {
		if n != 0 && n != 1 {
			far = append(far, n)
		}
	}
	return far
}

// formsThatAreNoRune begin like a rune and aren't one, or begin like none.
func formsThatAreNoRune() []string {
	return []string{
		"\x80", "\x8f", "\xbf", "\x80\x80", "\xbfa",
		"\xc0\x80", "\xc0\xaf", "\xc1\x81", "\xc1\xbf", "\xe0\x80\x80", "\xe0\x81\x81", "\xe0\x9f\xbf", "\xf0\x80\x80\x80", "\xf0\x80\x81\x81", "\xf0\x8f\xbf\xbf",
		"\xc2", "\xdf", "\xe0", "\xe1", "\xe0\xa0", "\xe4\xb8", "\xef\xbf", "\xf0", "\xf1", "\xf0\x90", "\xf0\x9f\x98", "\xf4\x8f\xbf", "\xf3\xbf\xbf",
		"\xc3\x28", "\xc3\xc3\xa9", "\xc3\x7f", "\xc3\xc0", "\xe4\x28\xad", "\xe4\xb8\x28", "\xe4\xb8\xff", "\xe4\xb8\xc0", "\xf0\x28\x98\x80", "\xf0\x9f\x28\x80", "\xf0\x9f\x98\x28", "\xf0\x9f\x98\xc0",
		"\xed\xa0\x80", "\xed\xad\xbf", "\xed\xb0\x80", "\xed\xbf\xbf", "\xed\xa0\xbd\xed\xb8\x80",
		"\xf4\x90\x80\x80", "\xf4\xbf\xbf\xbf", "\xf5\x80\x80\x80", "\xf7\xbf\xbf\xbf",
		"\xf8\x88\x80\x80\x80", "\xf8", "\xf9", "\xfb\xbf\xbf\xbf\xbf", "\xfc\x84\x80\x80\x80\x80", "\xfd\xbf\xbf\xbf\xbf\xbf", "\xfe", "\xff", "\xfe\xff", "\xff\xfe",
	}
}

func TestConstantsOfRunes(t *testing.T) {
	if impl.MaxRune != 1114111 || impl.ClassBlank != 0 || impl.ClassWord != 1 || impl.ClassOther != 2 {
		t.Error("the constants of chapter 3 are others")
	}
}

func TestRuneOk(t *testing.T) {
	right := map[int]bool{
		-1: false, 0: true, 127: true, 128: true, 2047: true, 2048: true, 55295: true, 55296: false, 56000: false, 57343: false, 57344: true,
		65535: true, 65536: true, impl.MaxRune: true, impl.MaxRune + 1: false,
	}
	for r, want := range right {
		if impl.RuneOk(r) != want {
			t.Errorf("RuneOk(%d) = %v", r, !want)
		}
	}
	for _, r := range farInts() {
		if impl.RuneOk(r) {
			t.Errorf("RuneOk(%d) = true", r)
		}
	}
	for r := -1000; r < impl.MaxRune+1000; r++ {
		if impl.RuneOk(r) != isRune(r) {
			t.Fatalf("RuneOk(%d) = %v", r, !isRune(r))
		}
	}
}

func TestRuneBytesOfKnownRunes(t *testing.T) {
	known := map[int]string{
		0: "\x00", 97: "a", 127: "\x7f", 128: "\xc2\x80", 233: "\xc3\xa9", 2047: "\xdf\xbf", 2048: "\xe0\xa0\x80", 20013: "\xe4\xb8\xad",
		55295: "\xed\x9f\xbf", 57344: "\xee\x80\x80", 65533: "\xef\xbf\xbd", 65535: "\xef\xbf\xbf", 65536: "\xf0\x90\x80\x80",
		128512: "\xf0\x9f\x98\x80", impl.MaxRune: "\xf4\x8f\xbf\xbf",
	}
	for r, want := range known {
		if got := impl.RuneBytes(r); string(got) != want {
			t.Errorf("RuneBytes(%d) = %x; want %x", r, got, want)
		}
	}
	for _, r := range append(farInts(), -1, 55296, 55300, 57343, impl.MaxRune+1) {
		if got := impl.RuneBytes(r); len(got) != 0 {
			t.Errorf("RuneBytes(%d) = %x; want nothing", r, got)
		}
	}
}

func TestRuneBytesIsNewMemory(t *testing.T) {
	for _, r := range []int{0, 97, 233, 20013, 65533, 128512} {
		one := impl.RuneBytes(r)
		two := impl.RuneBytes(r)
		spoil(one)
		if !bytes.Equal(two, bytesOfRune(r)) || !bytes.Equal(impl.RuneBytes(r), bytesOfRune(r)) {
			t.Errorf("%d: two answers share memory", r)
		}
	}
}

func wantRead(t *testing.T, b []byte, at int, want int, wantLong int) {
	t.Helper()
	if got, n := impl.RuneRead(b, at); got != want || n != wantLong {
		t.Errorf("RuneRead(%x, %d) = %d, %d; want %d, %d", b, at, got, n, want, wantLong)
	}
}

func TestRuneReadAtItsPlaces(t *testing.T) {
	b := []byte("a\xc3\xa9\xe4\xb8\xad\x00\xf0\x9f\x98\x80\xef\xbf\xbd")
	starts := map[int][2]int{0: {97, 1}, 1: {233, 2}, 3: {20013, 3}, 6: {0, 1}, 7: {128512, 4}, 11: {65533, 3}}
	for at := range len(b) {
		want := starts[at]
		wantRead(t, b, at, want[0], want[1])
	}
}

func TestRuneReadAtFarPlaces(t *testing.T) {
	b := []byte("abc")
	for _, at := range append(extremes(), -2, -3, 3, 4, 100, 1<<32+1) {
		if at != 0 && at != 1 {
			wantRead(t, b, at, 0, 0)
		}
		wantRead(t, nil, at, 0, 0)
		wantRead(t, []byte{}, at, 0, 0)
	}
}

func TestRuneReadDoesNotReadSpareRoom(t *testing.T) {
	whole := []byte("a\xf0\x9f\x98\x80b")
	for n := 2; n < 5; n++ {
		wantRead(t, whole[:n], 1, 0, 0)
	}
	wantRead(t, whole[:5], 1, 128512, 4)
	wantRead(t, whole[:5], 5, 0, 0)
}

func TestRuneReadPastMaxBytes(t *testing.T) {
	b := append(make([]byte, 2*impl.MaxBytes), "\xe4\xb8\xad"...)
	if r, n := impl.RuneRead(b, 2*impl.MaxBytes); r != 20013 || n != 3 {
		t.Errorf("got %d, %d", r, n)
	}
}

func TestRuneReadLeavesItsArgument(t *testing.T) {
	for _, text := range []string{"a", "\xe4\xb8\xad", "\xe4\xb8", "\xff"} {
		arg, whole := roomy([]byte(text))
		before := bytes.Clone(whole)
		impl.RuneRead(arg, 0)
		if !bytes.Equal(whole, before) {
			t.Errorf("%x: the argument's memory was written", text)
		}
	}
}

func TestRuneReadRefusesOtherForms(t *testing.T) {
	for _, form := range formsThatAreNoRune() {
		wantRead(t, []byte(form), 0, 0, 0)
		wantRead(t, []byte("a"+form), 1, 0, 0)
		if c := form[0]; c < 192 || c > 247 {
			wantRead(t, []byte(form+"\x80\x80\x80"), 0, 0, 0)
		}
	}
	for lead := 128; lead < 192; lead++ {
		wantRead(t, []byte{byte(lead)}, 0, 0, 0)
		wantRead(t, []byte{byte(lead), 128, 128, 128}, 0, 0, 0)
	}
	for lead := 248; lead < 256; lead++ {
		wantRead(t, []byte{byte(lead), 191, 191, 191, 191, 191, 191}, 0, 0, 0)
	}
	for lone := 55296; lone <= 57343; lone++ {
		wantRead(t, []byte{237, byte(128 + lone/64%64), byte(128 + lone%64)}, 0, 0, 0)
	}
	for r := impl.MaxRune + 1; r < 1<<21; r += 61 {
		wantRead(t, []byte{byte(240 + r/262144), byte(128 + r/4096%64), byte(128 + r/64%64), byte(128 + r%64)}, 0, 0, 0)
	}
}

// P12: every rune is read as it was written, whatever stands ahead of it and behind it.
func TestRunesComeBack(t *testing.T) {
	for r := -10; r < impl.MaxRune+10; r++ {
		form := impl.RuneBytes(r)
		want := bytesOfRune(r)
		if !bytes.Equal(form, want) {
			t.Fatalf("RuneBytes(%d) = %x; want %x", r, form, want)
		}
		if len(want) == 0 {
			continue
		}
		room := append([]byte{255, 128}, form...)
		room = append(room, byte(r))
		if got, n := impl.RuneRead(room, 2); got != r || n != len(form) {
			t.Fatalf("%d is read back as %d, %d", r, got, n)
		}
		if got, n := impl.RuneRead(form, 0); got != r || n != len(form) {
			t.Fatalf("%d is read back as %d, %d at the end", r, got, n)
		}
		if got, n := impl.RuneRead(form[:len(form)-1], 0); got != 0 || n != 0 {
			t.Fatalf("%d, cut off, is read as %d, %d", r, got, n)
		}
	}
}

// soundRead fails where something is read that isn't the form of what is told.
func soundRead(t *testing.T, b []byte) {
	got, n := impl.RuneRead(b, 0)
	if n == 0 && got == 0 {
		return
	}
	if n < 1 || n > len(b) || !bytes.Equal(bytesOfRune(got), b[:n]) {
		t.Fatalf("RuneRead(%x, 0) = %d, %d", b, got, n)
	}
}

// P12: nothing else is read as a rune.
func TestNothingElseIsReadAsARune(t *testing.T) {
	b := make([]byte, 4)
	for form := range 1 << 24 {
		b[0], b[1], b[2] = byte(form>>16), byte(form>>8), byte(form)
		soundRead(t, b[:3])
	}
	for form := range 1 << 16 {
		b[0], b[1] = byte(form>>8), byte(form)
		soundRead(t, b[:2])
	}
	edges := []byte{0, 'a', 127, 128, 129, 143, 144, 160, 190, 191, 192, 193, 224, 240, 244, 255}
	for lead := range 256 {
		for _, two := range edges {
			for _, three := range edges {
				for _, four := range edges {
					b[0], b[1], b[2], b[3] = byte(lead), two, three, four
					soundRead(t, b)
				}
			}
		}
	}
	// Behind a lead of four bytes the last two are here all that they may be in a rune.
	for lead := 240; lead < 256; lead++ {
		for two := range 256 {
			for last := range 1 << 12 {
				b[0], b[1], b[2], b[3] = byte(lead), byte(two), byte(128+last>>6), byte(128+last&63)
				soundRead(t, b)
			}
		}
	}
}

func wantRunes(t *testing.T, s string, want []int, wantOk bool) {
	t.Helper()
	got, ok := impl.RunesOf(s)
	if ok != wantOk || !slices.Equal(got, want) {
		t.Errorf("RunesOf(%.30q, %d bytes) = %d runes, %v; want %d, %v", s, len(s), len(got), ok, len(want), wantOk)
	}
}

func TestRunesOf(t *testing.T) {
	wantRunes(t, "", nil, true)
	wantRunes(t, "a", []int{97}, true)
	wantRunes(t, "a\xc3\xa9\xe4\xb8\xad", []int{97, 233, 20013}, true)
	wantRunes(t, "\x00\n\x7f", []int{0, 10, 127}, true)
	wantRunes(t, "\xef\xbf\xbd", []int{65533}, true)
	wantRunes(t, "\xef\xbf\xbda\xef\xbf\xbd", []int{65533, 97, 65533}, true)
	wantRunes(t, "\xf0\x9f\x98\x80\xf4\x8f\xbf\xbf", []int{128512, impl.MaxRune}, true)
	for _, r := range runeEdges() {
		if isRune(r) {
			wantRunes(t, "x"+string(bytesOfRune(r))+"y", []int{'x', r, 'y'}, true)
		}
	}
}

func TestRunesOfRefusesOtherForms(t *testing.T) {
	for _, form := range formsThatAreNoRune() {
		wantRunes(t, form, nil, false)
		wantRunes(t, "a"+form, nil, false)
		wantRunes(t, form+"a", nil, false)
		wantRunes(t, "\xc3\xa9"+form+"\xe4\xb8\xad", nil, false)
		wantRunes(t, "\xef\xbf\xbd"+form, nil, false)
		wantRunes(t, form+"\xef\xbf\xbd", nil, false)
	}
}

func TestRunesOfAtMaxBytes(t *testing.T) {
	long := strings.Repeat("a", impl.MaxBytes)
	if got, ok := impl.RunesOf(long); !ok || len(got) != impl.MaxBytes || got[impl.MaxBytes-1] != 'a' {
		t.Error("just MaxBytes bytes were refused or wrong")
	}
	wantRunes(t, long+"a", nil, false)
	wantRunes(t, long[1:]+"\xff", nil, false)
	wantRunes(t, long+"\xff", nil, false)
	wide := strings.Repeat("\xf0\x9f\x98\x80", impl.MaxBytes/4)
	if got, ok := impl.RunesOf(wide); !ok || len(got) != impl.MaxBytes/4 {
		t.Error("MaxBytes bytes of wide runes were refused or wrong")
	}
	wantRunes(t, wide[4:]+"abc\xc3\xa9", nil, false)
	if got, ok := impl.RunesOf(wide[4:] + "ab\xc3\xa9"); !ok || len(got) != impl.MaxBytes/4+2 {
		t.Error("MaxBytes bytes of mixed runes were refused or wrong")
	}
}

func TestRunesOfIsNewMemory(t *testing.T) {
	s := strings.Clone("a\xc3\xa9b")
	one, _ := impl.RunesOf(s)
	two, _ := impl.RunesOf(s)
	for i := range one {
		one[i] = -5
	}
	if !slices.Equal(two, []int{97, 233, 98}) || s != "a\xc3\xa9b" {
		t.Error("two answers share memory, or the text was changed")
	}
}

// splitRunes is the text cut into the forms given; no form begins another, so that there is one way at most.
func splitRunes(s string, forms map[string]int) ([]int, bool) {
	var all []int
	for s != "" {
		n := 1
		for n < len(s) && n < 4 && forms[s[:n]] == 0 {
			n++
		}
		r := forms[s[:n]]
		if r == 0 {
			return nil, false
		}
		all, s = append(all, r), s[n:]
	}
	return all, true
}

// P12: a text is read as runes where it was written of runes, and else not.
func TestTextsOfRunesComeBack(t *testing.T) {
	forms := map[string]int{}
	for r := 1; r <= impl.MaxRune; r++ {
		if isRune(r) {
			forms[string(bytesOfRune(r))] = r
		}
	}
	for _, s := range textsOver("a\xc3\xa9\xe0\xf0\x90", 5) {
		want, wantOk := splitRunes(s, forms)
		wantRunes(t, s, want, wantOk)
		got, ok := impl.RunesOf(s)
		if ok && impl.TextOf(got) != s {
			t.Fatalf("TextOf(RunesOf(%q)) = %q", s, impl.TextOf(got))
		}
	}
	var all []int
	for i, r := range runeEdges() {
		if isRune(r) {
			all = append(all, r, i)
		}
		wantRunes(t, impl.TextOf(all), all, true)
	}
	for from := 0; from <= impl.MaxRune; from += 10000 {
		var l []int
		for r := from; r < from+10000; r++ {
			if isRune(r) {
				l = append(l, r)
			}
		}
		wantRunes(t, impl.TextOf(l), l, true)
	}
}

// P12: what RunesOf reads is what RuneRead reads, one rune behind the other.
func TestRunesOfAndRuneReadAgree(t *testing.T) {
	for seed := range 20000 {
		b := someBytes(1+seed%5, uint32(seed))
		for i := range b {
			if seed%3 > 0 {
				b[i] = "a\x7f\x80\xbf\xc3\xa9\xe4\xb8\xad\xf0\x9f\x98\xed\xa0\xf4\x90"[b[i]%16]
			}
		}
		var want []int
		at := 0
		for at < len(b) {
			r, n := impl.RuneRead(b, at)
			if n == 0 {
				break
			}
			want, at = append(want, r), at+n
		}
		if at < len(b) {
			want = nil
		}
		wantRunes(t, string(b), want, at == len(b))
	}
}

func TestTextOf(t *testing.T) {
	cases := []struct {
		l    []int
		want string
	}{
		{nil, ""},
		{[]int{}, ""},
		{[]int{97}, "a"},
		{[]int{0, 10, 127}, "\x00\n\x7f"},
		{[]int{97, 233, 20013, 128512}, "a\xc3\xa9\xe4\xb8\xad\xf0\x9f\x98\x80"},
		{[]int{65533}, "\xef\xbf\xbd"},
		{[]int{97, 55300, 233}, "a\xc3\xa9"},
		{[]int{-1}, ""},
		{[]int{55296, 57343, impl.MaxRune + 1, -1}, ""},
		{[]int{-1, 'x', 1<<32 + 97, 'y', impl.MaxRune + 1}, "xy"},
	}
	for _, c := range cases {
		if got := impl.TextOf(c.l); got != c.want {
			t.Errorf("TextOf(%v) = %q; want %q", c.l, got, c.want)
		}
	}
	for _, r := range farInts() {
		if got := impl.TextOf([]int{'<', r, '>'}); got != "<>" {
			t.Errorf("TextOf with %d = %q", r, got)
		}
	}
}

func TestTextOfIsEachOfTheRunes(t *testing.T) {
	all := append(runeEdges(), farInts()...)
	for i := range all {
		var want []byte
		for _, r := range all[i:] {
			want = append(want, bytesOfRune(r)...)
		}
		if got := impl.TextOf(all[i:]); got != string(want) {
			t.Errorf("from %d: %q; want %q", i, got, want)
		}
	}
}

func TestTextOfHasNoLimit(t *testing.T) {
	l := slices.Repeat([]int{20013}, impl.MaxBytes+1)
	if got := impl.TextOf(l); got != strings.Repeat("\xe4\xb8\xad", impl.MaxBytes+1) {
		t.Errorf("a long list has %d bytes", len(got))
	}
}

func TestListsOfRunesAreLeft(t *testing.T) {
	whole := []int{97, 55300, 20013, -7, 4000, 5000}
	before := slices.Clone(whole)
	text := impl.TextOf(whole[:4])
	wide := impl.WidthOf(whole[:4])
	if !slices.Equal(whole, before) {
		t.Error("the list was changed")
	}
	clear(whole)
	if text != "a\xe4\xb8\xad" || wide != 3 {
		t.Errorf("the answers are %q and %d", text, wide)
	}
}

func TestPrintable(t *testing.T) {
	known := map[int]bool{
		-1: false, 0: false, 9: false, 10: false, 27: false, 31: false, 32: true, 33: true, 97: true, 126: true, 127: false, 128: false, 140: false, 159: false,
		160: true, 161: true, 173: true, 233: true, 8203: true, 55295: true, 55296: false, 57343: false, 57344: true, 65279: true, 65533: true, 65534: true, 65535: true,
		65536: true, impl.MaxRune: true, impl.MaxRune + 1: false,
	}
	for r, want := range known {
		if impl.Printable(r) != want {
			t.Errorf("Printable(%d) = %v", r, !want)
		}
	}
	for _, r := range farInts() {
		if impl.Printable(r) {
			t.Errorf("Printable(%d) = true", r)
		}
	}
	for r := -200; r < impl.MaxRune+200; r++ {
		want := isRune(r) && r >= 32 && !(127 <= r && r <= 159)
		if impl.Printable(r) != want {
			t.Fatalf("Printable(%d) = %v", r, !want)
		}
	}
}

// wideRanges are both ends of each range of width 2.
func wideRanges() [][2]int {
	return [][2]int{{4352, 4447}, {11904, 42191}, {44032, 55203}, {63744, 64255}, {65280, 65376}, {65504, 65510}, {127744, 129791}, {131072, 262141}}
}

func wantWidth(t *testing.T, r int, want int) {
	t.Helper()
	if got := impl.Width(r); got != want {
		t.Errorf("Width(%d) = %d; want %d", r, got, want)
	}
}

func TestWidthAtTheEnds(t *testing.T) {
	for _, ends := range wideRanges() {
		wantWidth(t, ends[0]-1, 1)
		wantWidth(t, ends[0], 2)
		wantWidth(t, ends[0]+1, 2)
		wantWidth(t, ends[1]-1, 2)
		wantWidth(t, ends[1], 2)
		wantWidth(t, ends[1]+1, 1)
	}
	for r, want := range map[int]int{-1: 0, 0: 0, 9: 0, 10: 0, 31: 0, 32: 1, 126: 1, 127: 0, 159: 0, 160: 1, 769: 1, 55295: 1, 55296: 0, 57343: 0, 57344: 1, 65535: 1, impl.MaxRune: 1, impl.MaxRune + 1: 0} {
		wantWidth(t, r, want)
	}
	for _, r := range append(farInts(), 1<<32+20013, 1<<32+4352, -20013) {
		wantWidth(t, r, 0)
	}
}

func TestWidthEverywhere(t *testing.T) {
	want := make([]byte, impl.MaxRune+1)
	for r := range want {
		if isRune(r) && r >= 32 && !(127 <= r && r <= 159) {
			want[r] = 1
		}
	}
	for _, ends := range wideRanges() {
		for r := ends[0]; r <= ends[1]; r++ {
			want[r] = 2
		}
	}
	for r := range want {
		if got := impl.Width(r); got != int(want[r]) {
			t.Fatalf("Width(%d) = %d; want %d", r, got, want[r])
		}
	}
}

func TestWidthOf(t *testing.T) {
	cases := []struct {
		l    []int
		want int
	}{
		{nil, 0},
		{[]int{}, 0},
		{[]int{'a'}, 1},
		{[]int{20013}, 2},
		{[]int{'a', 20013, 9}, 3},
		{[]int{9, 10, 0, -1, 55300, 127}, 0},
		{[]int{20013, 20013, 'a', 128512, 233}, 8},
		{[]int{1<<32 + 97, 1<<32 + 20013, -97, 'b'}, 1},
	}
	for _, c := range cases {
		if got := impl.WidthOf(c.l); got != c.want {
			t.Errorf("WidthOf(%v) = %d; want %d", c.l, got, c.want)
		}
	}
	if got := impl.WidthOf(slices.Repeat([]int{20013}, 2*impl.MaxBytes)); got != 4*impl.MaxBytes {
		t.Errorf("the width of a long list is %d", got)
	}
	sum := 0
	all := append(runeEdges(), farInts()...)
	for i, r := range all {
		sum += impl.Width(r)
		if got := impl.WidthOf(all[:i+1]); got != sum {
			t.Errorf("WidthOf(%v) = %d; want %d", all[:i+1], got, sum)
		}
	}
}

func wantClass(t *testing.T, want int, runes ...int) {
	t.Helper()
	for _, r := range runes {
		if got := impl.ClassOf(r); got != want {
			t.Errorf("ClassOf(%d) = %d; want %d", r, got, want)
		}
	}
}

func TestClassAtItsEdges(t *testing.T) {
	wantClass(t, impl.ClassBlank, 9, 10, 32)
	wantClass(t, impl.ClassWord, '0', '1', '9', 'A', 'B', 'Z', '_', 'a', 'b', 'z')
	wantClass(t, impl.ClassWord, 160, 161, 215, 233, 8192, 12288, 20013, 55295, 57344, 65533, 65535, 65536, 128512, impl.MaxRune)
	wantClass(t, impl.ClassOther, -1, 0, 8, 11, 12, 13, 31, 33, '/', ':', '@', '[', '^', '`', '{', '~', '-', '.', '"', 126, 127, 128, 133, 159, 55296, 57343, impl.MaxRune+1)
	wantClass(t, impl.ClassOther, farInts()...)
	wantClass(t, impl.ClassOther, 1<<32+9, 1<<32+32, 1<<32+'a', 1<<32+'_', -32)
}

func TestClassEverywhere(t *testing.T) {
	const word = "0123456789ABCDEFGHIJKLMNOPQRSTUVWXYZ_abcdefghijklmnopqrstuvwxyz"
	for r := -200; r < impl.MaxRune+200; r++ {
		want := impl.ClassOther
		switch {
		case r == 9 || r == 10 || r == 32:
			want = impl.ClassBlank
		case r >= 0 && r < 128 && strings.IndexByte(word, byte(r)) >= 0:
			want = impl.ClassWord
		case r >= 160 && isRune(r):
			want = impl.ClassWord
		}
		if got := impl.ClassOf(r); got != want {
			t.Fatalf("ClassOf(%d) = %d; want %d", r, got, want)
		}
	}
}
