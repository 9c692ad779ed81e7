package tests

import (
	"bytes"
	"hash/crc32"
	"regexp"
	"slices"
	"strconv"
	"strings"
	"testing"

	"loop.example/g00600/impl"
)

func wantPut(t *testing.T, b []byte, n int, size int, want []byte) {
	t.Helper()
	got, ok := impl.PutNum(b, n, size)
	if !ok || !bytes.Equal(got, want) {
		t.Errorf("PutNum(%d bytes, %d, %d) = %v, %v; want %v", len(b), n, size, got, ok, want)
	}
}

func wantNoPut(t *testing.T, b []byte, n int, size int) {
	t.Helper()
	got, ok := impl.PutNum(b, n, size)
	if ok || len(got) != 0 {
		t.Errorf("PutNum(%d bytes, %d, %d) = %d bytes, %v; want nothing and false", len(b), n, size, len(got), ok)
	}
}

func TestConstantsOfBytes(t *testing.T) {
	if impl.MaxBytes != 65536 || impl.MaxNum != 4294967295 {
		t.Error("the constants of chapter 2 are others")
	}
}

func TestPutNumPutsTheHighestByteFirst(t *testing.T) {
	wantPut(t, nil, 0, 1, []byte{0})
	wantPut(t, nil, 7, 4, []byte{0, 0, 0, 7})
	wantPut(t, []byte{}, 258, 2, []byte{1, 2})
	wantPut(t, []byte{9, 8}, 0x010203, 3, []byte{9, 8, 1, 2, 3})
	wantPut(t, []byte{9}, 0xfedcba98, 4, []byte{9, 0xfe, 0xdc, 0xba, 0x98})
}

func TestPutNumAtTheEndsOfEachSize(t *testing.T) {
	for size := 1; size <= 4; size++ {
		full := 1 << (8 * size)
		wantPut(t, []byte{5}, 0, size, append([]byte{5}, make([]byte, size)...))
		wantPut(t, []byte{5}, full-1, size, append([]byte{5}, bytes.Repeat([]byte{255}, size)...))
		wantNoPut(t, []byte{5}, full, size)
		wantNoPut(t, []byte{5}, full+1, size)
		wantNoPut(t, []byte{5}, -1, size)
	}
}

func TestPutNumRefusesOtherSizes(t *testing.T) {
	for _, n := range append(extremes(), 200) {
		for _, size := range append(extremes(), -4, 5, 6, 7, 8, 9, 63, 64) {
			if size != 1 {
				wantNoPut(t, []byte{1}, n, size)
			}
		}
	}
}

func TestPutNumRefusesFarNumbers(t *testing.T) {
	for _, n := range extremes() {
		for size := 1; size <= 4; size++ {
			if n < 0 || n >= 1<<(8*size) {
				wantNoPut(t, nil, n, size)
			}
		}
	}
}

func TestPutNumAtMaxBytes(t *testing.T) {
	for size := 1; size <= 4; size++ {
		b := someBytes(impl.MaxBytes-size, 1)
		got, ok := impl.PutNum(b, 3, size)
		if !ok || len(got) != impl.MaxBytes || !bytes.Equal(got[:len(b)], b) || got[len(got)-1] != 3 {
			t.Errorf("size %d: just MaxBytes bytes were refused or wrong", size)
		}
		wantNoPut(t, someBytes(impl.MaxBytes-size+1, 1), 3, size)
	}
	wantNoPut(t, someBytes(impl.MaxBytes, 1), 3, 1)
	wantNoPut(t, someBytes(impl.MaxBytes+10, 1), 3, 1)
}

func TestPutNumLeavesItsArgument(t *testing.T) {
	for _, given := range [][]byte{{}, {1}, {1, 2, 3}} {
		arg, whole := roomy(given)
		before := bytes.Clone(whole)
		one, _ := impl.PutNum(arg, 77, 2)
		two, _ := impl.PutNum(arg, 78, 2)
		if !bytes.Equal(whole, before) {
			t.Errorf("%v: the argument's memory was written", given)
		}
		if !bytes.Equal(one, append(bytes.Clone(given), 0, 77)) {
			t.Errorf("%v: a later call changed an answer", given)
		}
		spoil(one)
		if !bytes.Equal(whole, before) || !bytes.Equal(two, append(bytes.Clone(given), 0, 78)) {
			t.Errorf("%v: an answer shares memory", given)
		}
	}
}

func wantGet(t *testing.T, b []byte, at int, size int, want int, wantOk bool) {
	t.Helper()
	got, ok := impl.GetNum(b, at, size)
	if got != want || ok != wantOk {
		t.Errorf("GetNum(%v, %d, %d) = %d, %v; want %d, %v", b, at, size, got, ok, want, wantOk)
	}
}

func TestGetNumReadsTheHighestByteFirst(t *testing.T) {
	b := []byte{1, 2, 3, 0, 255}
	wantGet(t, b, 0, 1, 1, true)
	wantGet(t, b, 0, 2, 258, true)
	wantGet(t, b, 1, 3, 0x020300, true)
	wantGet(t, b, 1, 4, 0x020300ff, true)
	wantGet(t, b, 4, 1, 255, true)
	wantGet(t, []byte{255, 255, 255, 255}, 0, 4, impl.MaxNum, true)
}

func TestGetNumAtTheEnd(t *testing.T) {
	b := []byte{7, 7, 7, 7, 7, 7}
	for size := 1; size <= 4; size++ {
		last := len(b) - size
		if _, ok := impl.GetNum(b, last, size); !ok {
			t.Errorf("size %d: the last place is refused", size)
		}
		wantGet(t, b, last+1, size, 0, false)
		wantGet(t, b, len(b), size, 0, false)
		wantGet(t, b, len(b)+1, size, 0, false)
		wantGet(t, nil, 0, size, 0, false)
		wantGet(t, b[:size-1], 0, size, 0, false)
	}
}

func TestGetNumRefusesPlacesAndSizes(t *testing.T) {
	b := []byte{7, 7, 7, 7, 7, 7, 7, 7, 7, 7}
	for _, at := range extremes() {
		for size := -1; size <= 9; size++ {
			if at != 0 && at != 1 || size < 1 || size > 4 {
				wantGet(t, b, at, size, 0, false)
			}
		}
		for _, size := range extremes() {
			if size != 1 {
				wantGet(t, b, at, size, 0, false)
			}
		}
	}
}

func TestGetNumDoesNotReadSpareRoom(t *testing.T) {
	arg, _ := roomy([]byte{1, 2})
	wantGet(t, arg, 1, 2, 0, false)
	wantGet(t, arg, 2, 1, 0, false)
}

func TestGetNumReadsPastMaxBytes(t *testing.T) {
	b := append(make([]byte, impl.MaxBytes), 4, 5)
	if n, ok := impl.GetNum(b, impl.MaxBytes, 2); !ok || n != 1029 {
		t.Errorf("got %d, %v", n, ok)
	}
}

// P12: numbers in bytes are read as they were written.
func TestNumbersInBytesComeBack(t *testing.T) {
	for size := 1; size <= 4; size++ {
		step := 1<<(8*size)/997 + 1
		for n := 0; n < 1<<(8*size); n += step {
			b, ok := impl.PutNum([]byte{1, 2, 3}, n, size)
			back, read := impl.GetNum(b, 3, size)
			if !ok || !read || back != n || len(b) != 3+size {
				t.Fatalf("%d in %d bytes: %v, back %d", n, size, b, back)
			}
			again, _ := impl.PutNum(b[:3], back, size)
			if !bytes.Equal(again, b) {
				t.Fatalf("%d in %d bytes is written twice in two ways", n, size)
			}
		}
	}
}

func TestCrc32KnownSums(t *testing.T) {
	known := []struct {
		text string
		sum  int
	}{
		{"", 0},
		{"a", 3904355907},
		{"123456789", 3421780262},
		{"\x00", 3523407757},
		{"\xff", 4278190080},
		{"\xff\xff\xff\xff", 4294967295},
	}
	for _, k := range known {
		if got := impl.Crc32([]byte(k.text)); got != k.sum {
			t.Errorf("Crc32(%q) = %d; want %d", k.text, got, k.sum)
		}
	}
}

func TestCrc32IsTheSumEverywhere(t *testing.T) {
	for c := range 256 {
		b := []byte{byte(c)}
		if got := impl.Crc32(b); got != int(crc32.ChecksumIEEE(b)) {
			t.Errorf("byte %d: %d", c, got)
		}
	}
	for _, n := range []int{2, 3, 4, 5, 10, 64, 1000, impl.MaxBytes, impl.MaxBytes + 1} {
		b := someBytes(n, uint32(n))
		before := bytes.Clone(b)
		got := impl.Crc32(b)
		if got != int(crc32.ChecksumIEEE(b)) || got < 0 || got > impl.MaxNum {
			t.Errorf("%d bytes: %d", n, got)
		}
		if !bytes.Equal(b, before) {
			t.Errorf("%d bytes: the argument was changed", n)
		}
		if impl.Crc32(b) != got {
			t.Errorf("%d bytes: the second sum is another", n)
		}
	}
}

func TestNumText(t *testing.T) {
	for n, want := range map[int]string{0: "0", 7: "7", 10: "10", 120: "120", 1000000: "1000000", 4294967294: "4294967294", impl.MaxNum: "4294967295"} {
		if got := impl.NumText(n); got != want {
			t.Errorf("NumText(%d) = %q", n, got)
		}
	}
	for _, n := range append(extremes(), impl.MaxNum+1, -2, -10) {
		if got := impl.NumText(n); (n < 0 || n > impl.MaxNum) && got != "" {
			t.Errorf("NumText(%d) = %q; want the empty text", n, got)
		}
	}
}

func wantTextNum(t *testing.T, s string, want int, wantOk bool) {
	t.Helper()
	if got, ok := impl.TextNum(s); got != want || ok != wantOk {
		t.Errorf("TextNum(%q) = %d, %v; want %d, %v", s, got, ok, want, wantOk)
	}
}

func TestTextNum(t *testing.T) {
	wantTextNum(t, "0", 0, true)
	wantTextNum(t, "9", 9, true)
	wantTextNum(t, "120", 120, true)
	wantTextNum(t, "1000000000", 1000000000, true)
	wantTextNum(t, "4294967295", impl.MaxNum, true)
	wrong := []string{
		"", "00", "01", "012", "0000000001", "00000000001", "04294967295",
		"4294967296", "9999999999", "10000000000", "42949672950", "18446744073709551617", "18446744073709551616", strings.Repeat("9", 70000),
		"+1", "-1", "-0", " 1", "1 ", "1\n", "\n", "1\x00", "\x001", "1a", "a1", "a", "0x1", "0b1", "1_0", "1.0", "1e3", "/", ":", "1/", "1:", "\xff", "\u0661", "１",
	}
	for _, s := range wrong {
		wantTextNum(t, s, 0, false)
	}
}

// P12: just the texts that NumText tells are read as numbers.
func TestTextNumReadsNothingElse(t *testing.T) {
	form := regexp.MustCompile(`\A(0|[1-9][0-9]*)\z`)
	texts := textsOver("019+- a/:", 5)
	for i := range 256 {
		texts = append(texts, string([]byte{byte(i)}), string([]byte{'4', byte(i)}), string([]byte{byte(i), '4'}))
	}
	for _, s := range texts {
		if !form.MatchString(s) {
			wantTextNum(t, s, 0, false)
			continue
		}
		n, _ := strconv.Atoi(s)
		wantTextNum(t, s, n, true)
	}
}

func TestNumbersInTextsComeBack(t *testing.T) {
	for n := 0; n <= impl.MaxNum; n += 1 + n/50 {
		s := impl.NumText(n)
		wantTextNum(t, s, n, true)
		if s != strconv.Itoa(n) {
			t.Fatalf("NumText(%d) = %q", n, s)
		}
	}
	for n := impl.MaxNum - 20; n <= impl.MaxNum+20; n++ {
		want := n
		if n > impl.MaxNum {
			want = 0
		}
		wantTextNum(t, strconv.Itoa(n), want, n <= impl.MaxNum)
	}
}

func TestHexOf(t *testing.T) {
	for text, want := range map[string]string{"": "", "\x00": "00", "\x0f": "0f", "\xf0": "f0", "\x0a\xff": "0aff", "\x01\x23\x45\x67\x89\xab\xcd\xef": "0123456789abcdef"} {
		if got := impl.HexOf([]byte(text)); got != want {
			t.Errorf("HexOf(%q) = %q", text, got)
		}
	}
	if impl.HexOf(nil) != "" {
		t.Error("HexOf(nil) isn't empty")
	}
	if n := len(impl.HexOf(make([]byte, impl.MaxBytes+1))); n != 2*impl.MaxBytes+2 {
		t.Errorf("more than MaxBytes bytes have %d digits", n)
	}
}

func wantUnhex(t *testing.T, s string, want []byte, wantOk bool) {
	t.Helper()
	got, ok := impl.Unhex(s)
	if ok != wantOk || !bytes.Equal(got, want) {
		t.Errorf("Unhex(%.20q, %d bytes) = %d bytes, %v; want %v", s, len(s), len(got), ok, wantOk)
	}
}

func TestUnhex(t *testing.T) {
	wantUnhex(t, "", nil, true)
	wantUnhex(t, "00", []byte{0}, true)
	wantUnhex(t, "0aff", []byte{10, 255}, true)
	wantUnhex(t, "f00f", []byte{240, 15}, true)
	for _, s := range []string{"0", "f", "000", "0aff0", "0A", "A0", "0F", "F0", "AB", "0g", "g0", "0x", " 0", "0 ", "00 ", " 00", "00 00", "0\n", "-1", "+1", "zz", "00zz", "zz00", "00000g", "\x00\x00", "\xff\xff"} {
		wantUnhex(t, s, nil, false)
	}
}

func TestUnhexAtMaxBytes(t *testing.T) {
	b := someBytes(impl.MaxBytes, 5)
	s := impl.HexOf(b)
	wantUnhex(t, s, b, true)
	wantUnhex(t, s+"0", nil, false)
	wantUnhex(t, s+"00", nil, false)
	wantUnhex(t, s[1:], nil, false)
	wantUnhex(t, s+s, nil, false)
}

// P12: just the digits that HexOf tells are read as bytes.
func TestUnhexReadsNothingElse(t *testing.T) {
	const digits = "0123456789abcdef"
	for high := range 256 {
		for low := range 256 {
			s := string([]byte{byte(high), byte(low)})
			h, l := strings.IndexByte(digits, byte(high)), strings.IndexByte(digits, byte(low))
			if h < 0 || l < 0 {
				wantUnhex(t, s, nil, false)
				wantUnhex(t, "00"+s, nil, false)
				continue
			}
			wantUnhex(t, s, []byte{byte(16*h + l)}, true)
		}
	}
}

func TestDigitsComeBack(t *testing.T) {
	for n := range 300 {
		b := someBytes(n, uint32(n))
		s := impl.HexOf(b)
		wantUnhex(t, s, b, true)
		for i := range len(s) {
			if s[i] >= 'a' {
				wantUnhex(t, s[:i]+strings.ToUpper(s[i:i+1])+s[i+1:], nil, false)
				break
			}
		}
	}
}

func TestHexOfLeavesItsArgument(t *testing.T) {
	arg, whole := roomy([]byte{1, 2, 254})
	before := bytes.Clone(whole)
	s := impl.HexOf(arg)
	if !bytes.Equal(whole, before) {
		t.Error("HexOf wrote into its argument")
	}
	spoil(whole)
	if s != "0102fe" {
		t.Errorf("the answer followed its argument: %q", s)
	}
}

func TestUnhexAnswersNewMemory(t *testing.T) {
	s := strings.Repeat("0aff", 3)
	one, _ := impl.Unhex(s)
	spoil(one)
	wantUnhex(t, s, []byte{10, 255, 10, 255, 10, 255}, true)
	if s != "0aff0aff0aff" {
		t.Error("the text was changed")
	}
}

func wantTexts(t *testing.T, what string, s string, got []string, want ...string) {
	t.Helper()
	if !slices.Equal(got, want) {
		t.Errorf("%s(%q) = %q; want %q", what, s, got, want)
	}
}

func TestParts(t *testing.T) {
	cases := map[string][]string{
		"":          {""},
		"a":         {"a"},
		"a b":       {"a", "b"},
		" ":         {"", ""},
		"  ":        {"", "", ""},
		" a":        {"", "a"},
		"a ":        {"a", ""},
		"a  b ":     {"a", "", "b", ""},
		"   a":      {"", "", "", "a"},
		"a\tb\nc d": {"a\tb\nc", "d"},
		"a\u00a0b":  {"a\u00a0b"},
		"\xff \x00": {"\xff", "\x00"},
	}
	for s, want := range cases {
		wantTexts(t, "Parts", s, impl.Parts(s), want...)
	}
}

func TestLines(t *testing.T) {
	cases := map[string][]string{
		"":           {},
		"a":          {"a"},
		"a\n":        {"a"},
		"a\nb":       {"a", "b"},
		"a\nb\n":     {"a", "b"},
		"\n":         {""},
		"\n\n":       {"", ""},
		"\na":        {"", "a"},
		"a\n\nb":     {"a", "", "b"},
		"a\n\n":      {"a", ""},
		"a\r\nb\r":   {"a\r", "b\r"},
		" \n":        {" "},
		"a\n ":       {"a", " "},
		"\xff\n\x00": {"\xff", "\x00"},
	}
	for s, want := range cases {
		wantTexts(t, "Lines", s, impl.Lines(s), want...)
	}
}

// P12: parts and lines, put together again, are the text, and no part or line holds what it is cut at.
func TestPartsAndLinesComeBack(t *testing.T) {
	for _, s := range textsOver("a \n\t\xff", 6) {
		parts := impl.Parts(s)
		if len(parts) != strings.Count(s, " ")+1 || strings.Join(parts, " ") != s {
			t.Fatalf("Parts(%q) = %q", s, parts)
		}
		lines := impl.Lines(s)
		whole := strings.Join(lines, "\n")
		count := strings.Count(s, "\n")
		if strings.HasSuffix(s, "\n") {
			whole += "\n"
		} else if s != "" {
			count++
		}
		if len(lines) != count || whole != s {
			t.Fatalf("Lines(%q) = %q", s, lines)
		}
	}
}

func TestPartsAndLinesOfLongTexts(t *testing.T) {
	for _, n := range []int{impl.MaxBytes, impl.MaxBytes + 1, 3 * impl.MaxBytes} {
		if got := len(impl.Parts(strings.Repeat(" ", n))); got != n+1 {
			t.Errorf("%d blanks give %d parts", n, got)
		}
		if got := len(impl.Lines(strings.Repeat("\n", n))); got != n {
			t.Errorf("%d ends give %d lines", n, got)
		}
		wide := strings.Repeat("x", n)
		wantTexts(t, "Parts", "wide", impl.Parts(wide), wide)
		wantTexts(t, "Lines", "wide", impl.Lines(wide), wide)
	}
}

func TestPartsAndLinesAreNewMemory(t *testing.T) {
	for _, s := range []string{"whole", "one two  three ", "one\ntwo\n\nthree", "one\ntwo\n"} {
		s = strings.Clone(s)
		for _, got := range [][]string{impl.Parts(s), impl.Lines(s)} {
			for i, a := range got {
				if textsMeet(a, s) {
					t.Errorf("%q lies in the memory of %q", a, s)
				}
				for _, b := range got[:i] {
					if textsMeet(a, b) {
						t.Errorf("%q and %q lie in the same memory", a, b)
					}
				}
			}
		}
	}
	one := impl.Parts("a b")
	one[0], one[1] = "x", "y"
	wantTexts(t, "Parts", "a b", impl.Parts("a b"), "a", "b")
	two := impl.Lines("a\nb")
	two[0], two[1] = "x", "y"
	wantTexts(t, "Lines", "a\nb", impl.Lines("a\nb"), "a", "b")
}
