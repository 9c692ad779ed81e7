package tests

import (
	"slices"
	"strings"
	"testing"

	"loop.example/g00600/impl"
)

// wantUnread asks for nothing and false.
func wantUnread(t *testing.T, s string) {
	t.Helper()
	if row, has := modelRead(s); has {
		t.Fatalf("%q: the test itself is wrong: it is the text of %v", s, row.key)
	}
	if k, ok := impl.TextKey(s); ok || k != (impl.Key{}) {
		t.Errorf("TextKey(%q) = %v, %v; want nothing and false", s, k, ok)
	}
}

// wantReadAsModel asks for what the model reads.
func wantReadAsModel(t *testing.T, s string) {
	t.Helper()
	row, has := modelRead(s)
	if !has {
		wantUnread(t, s)
		return
	}
	if k, ok := impl.TextKey(s); !ok || k != row.key {
		t.Errorf("TextKey(%q) = %v, %v; want %v", s, k, ok, row.key)
	}
}

func TestTextKeyOfEachText(t *testing.T) {
	for _, row := range someKeys() {
		if k, ok := impl.TextKey(row.text); !ok || k != row.key {
			t.Errorf("TextKey(%q) = %v, %v; want %v", row.text, k, ok, row.key)
		}
		if k, ok := impl.TextKey(impl.KeyText(row.key)); !ok || k != row.key {
			t.Errorf("the text of %v is read as %v, %v", row.key, k, ok)
		}
	}
}

func TestTextKeyOfNoKey(t *testing.T) {
	for _, s := range []string{"", " ", "  ", "ab", "aa", "\u00e9\u00e9", "a ", " a", "a\n", "\na", "中中", "aSPC"} {
		wantUnread(t, s)
	}
	for _, s := range []string{"\x00", "\t", "\n", "\r", "\x1b", "\x1f", "\x7f", "\u0080", "\u009f", "\x1b[A", "\x1ba", "\x01"} {
		wantUnread(t, s)
	}
}

func TestTextKeyOfOtherSignsWithCtrlOrMeta(t *testing.T) {
	for _, s := range []string{"C-", "C--", "C-h", "C-i", "C-j", "C-m", "C-`", "C-{", "C-A", "C-Z", "C-^", "C-@", "C-[", "C-]", "C-\\", "C-0", "C- ", "C-?", "C-\x01", "C-\x1f", "C-\x7f", "C-\u00e1", "C-中"} {
		wantUnread(t, s)
	}
	for _, s := range []string{"M-", "M- ", "M-\x1b", "M-\x1f", "M-\x7f", "M-\x00", "M-\u0080", "M-\u00a0", "M-\u00e9", "M-中"} {
		wantUnread(t, s)
	}
	for _, s := range []string{"C-aa", "C-a ", "C- a", " C-a", "C-a\n", "C -a", "C-__", "M-ff", "M-f ", "M- f", " M-f", "M -f", "M---"} {
		wantUnread(t, s)
	}
	for _, s := range []string{"c-a", "m-f", "C_a", "C+a", "Ca", "Mf", "-a", "C-C-a", "M-C-a", "C-M-a", "M-M-a", "S-a", "A-a", "^a", "C\u2212a", "M\u2010f"} {
		wantUnread(t, s)
	}
	for _, name := range append(strings.Fields("ENTER BACK TAB ESC UP DOWN RIGHT LEFT HOME END DELETE MBACK BAD"), "SPC") {
		wantUnread(t, "C-"+name)
		wantUnread(t, "M-"+name)
	}
}

func TestTextKeyOfOtherNames(t *testing.T) {
	names := append(strings.Fields("ENTER BACK TAB ESC UP DOWN RIGHT LEFT HOME END DELETE MBACK BAD"), "SPC")
	for _, name := range names {
		low := strings.ToLower(name)
		for _, s := range []string{low, name[:1] + low[1:], low[:1] + name[1:], " " + name, name + " ", name + "\n", name + "\x00", name + "S", "X" + name, name + name, name[1:] + " ", name[:2] + " " + name[2:]} {
			wantUnread(t, s)
		}
		for n := range len(name) {
			wantReadAsModel(t, name[:n])
			wantReadAsModel(t, name[n:])
		}
		for _, other := range names {
			wantUnread(t, name+other)
			wantUnread(t, name+" "+other)
		}
	}
	for _, s := range []string{"SPACE", "DEL", "RET", "RETURN", "ESCAPE", "BS", "PGUP", "M-BACK", "NONE", "RUNE", "CTRL", "META", "4", "16", "EN", "E", "DELET", "MBAC", "BA", "U", "SP"} {
		wantReadAsModel(t, s)
	}
}

func TestTextKeyOfOtherBytes(t *testing.T) {
	for _, s := range formsThatAreNoRune() {
		for _, with := range []string{s, "C-" + s, "M-" + s, s + "C-a", "C-a" + s, "UP" + s, s + "UP", "a" + s, s + "a"} {
			wantUnread(t, with)
		}
	}
	for b := 128; b < 256; b++ {
		one := string([]byte{byte(b)})
		wantUnread(t, one)
		wantUnread(t, "C-"+one)
		wantUnread(t, "M-"+one)
		wantUnread(t, one+"-a")
	}
}

// A text that is one byte off, shorter or longer is another key's or none's.
func TestTextKeyOfTextsNextToOthers(t *testing.T) {
	signs := []byte{0, 9, 10, 27, 31, 32, '!', '-', 'A', 'C', 'M', '_', 'a', 'h', 'm', 'z', '~', 127, 128, 191, 195, 255}
	for _, row := range someKeys() {
		for i := range len(row.text) + 1 {
			for _, c := range signs {
				wantReadAsModel(t, row.text[:i]+string([]byte{c})+row.text[i:])
				if i < len(row.text) {
					wantReadAsModel(t, row.text[:i]+string([]byte{c})+row.text[i+1:])
				}
			}
			if i < len(row.text) {
				wantReadAsModel(t, row.text[:i]+row.text[i+1:])
			}
		}
	}
}

func TestTextKeyOfEveryShortText(t *testing.T) {
	for _, s := range textsOver("CM-ah_ \xc3\xa9", 4) {
		wantReadAsModel(t, s)
	}
	for _, s := range textsOver("SPCUBADTE", 4) {
		wantReadAsModel(t, s)
	}
}

func TestTextKeyOfLongTexts(t *testing.T) {
	for _, n := range []int{1000, impl.MaxBytes - 1, impl.MaxBytes, impl.MaxBytes + 1, impl.MaxBytes + 2, 3 * impl.MaxBytes} {
		long := strings.Repeat("a", n)
		for _, s := range []string{long, "C-" + long, "M-" + long, "UP" + long, long + "UP", strings.Repeat("\xc3\xa9", n/2), strings.Repeat(" ", n)} {
			if k, ok := impl.TextKey(s); ok || k != (impl.Key{}) {
				t.Errorf("a text of %d bytes is read as %v, %v", len(s), k, ok)
			}
		}
	}
}

// No two right keys have one text, and no text holds a blank.
func TestTextsOfKeysAreTheirOwn(t *testing.T) {
	of := map[string]impl.Key{}
	for _, row := range someKeys() {
		text := impl.KeyText(row.key)
		if other, met := of[text]; met && other != row.key || strings.Contains(text, " ") || text == "" {
			t.Errorf("%v and %v have the text %q", row.key, other, text)
		}
		of[text] = row.key
	}
	names := []string{}
	for kind := impl.KeyEnter; kind <= impl.KeyBad; kind++ {
		names = append(names, impl.KeyText(impl.Key{Kind: kind}))
	}
	if !slices.Equal(names, impl.Parts("ENTER BACK TAB ESC UP DOWN RIGHT LEFT HOME END DELETE MBACK BAD")) {
		t.Errorf("the names in the order of their kinds are %q", names)
	}
}
