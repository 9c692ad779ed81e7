package tests

import (
	"slices"
	"strings"
	"unicode/utf8"

	"loop.example/g00600/impl"
)

// The model is chapter 12 as a list: all right keys but those of runes stand in it, each with its text and what is sent for it.

type keyRow struct {
	key  impl.Key
	text string
	sent string
}

func ctrlRows() []keyRow {
	rows := []keyRow{{impl.Key{Kind: 2, R: 95}, "C-_", "\x1f"}}
	for i, r := range "abcdefghijklmnopqrstuvwxyz" {
		if !strings.ContainsRune("hijm", r) {
			rows = append(rows, keyRow{impl.Key{Kind: 2, R: int(r)}, "C-" + string(r), string([]byte{byte(1 + i)})})
		}
	}
	return rows
}

func metaRows() []keyRow {
	var rows []keyRow
	for _, r := range "!\"#$%&'()*+,-./0123456789:;<=>?@ABCDEFGHIJKLMNOPQRSTUVWXYZ[\\]^_`abcdefghijklmnopqrstuvwxyz{|}~" {
		rows = append(rows, keyRow{impl.Key{Kind: 3, R: int(r)}, "M-" + string(r), "\x1b" + string(r)})
	}
	return rows
}

func namedRows() []keyRow {
	return []keyRow{
		{impl.Key{Kind: 4}, "ENTER", "\x0d"}, {impl.Key{Kind: 5}, "BACK", "\x7f"}, {impl.Key{Kind: 6}, "TAB", "\x09"}, {impl.Key{Kind: 7}, "ESC", "\x1b"},
		{impl.Key{Kind: 8}, "UP", "\x1b[A"}, {impl.Key{Kind: 9}, "DOWN", "\x1b[B"}, {impl.Key{Kind: 10}, "RIGHT", "\x1b[C"}, {impl.Key{Kind: 11}, "LEFT", "\x1b[D"},
		{impl.Key{Kind: 12}, "HOME", "\x1b[H"}, {impl.Key{Kind: 13}, "END", "\x1b[F"}, {impl.Key{Kind: 14}, "DELETE", "\x1b[3~"},
		{impl.Key{Kind: 15}, "MBACK", "\x1b\x7f"}, {impl.Key{Kind: 16}, "BAD", "\x00"},
	}
}

var keyRows = slices.Concat(ctrlRows(), metaRows(), namedRows())

func runeRow(r int) keyRow {
	text := string(bytesOfRune(r))
	if r == 32 {
		return keyRow{impl.Key{Kind: 1, R: r}, "SPC", text}
	}
	return keyRow{impl.Key{Kind: 1, R: r}, text, text}
}

// modelKey is the row of a right key.
func modelKey(k impl.Key) (keyRow, bool) {
	if k.Kind == 1 {
		return runeRow(k.R), modelShown(k.R)
	}
	at := slices.IndexFunc(keyRows, func(row keyRow) bool { return row.key == k })
	if at < 0 {
		return keyRow{}, false
	}
	return keyRows[at], true
}

// modelRead is the row of a text.
func modelRead(s string) (keyRow, bool) {
	at := slices.IndexFunc(keyRows, func(row keyRow) bool { return row.text == s })
	runes := []rune(s)
	switch {
	case at >= 0:
		return keyRows[at], true
	case s == "SPC":
		return runeRow(32), true
	case len(runes) == 1 && utf8.ValidString(s) && s != " " && modelShown(int(runes[0])):
		return runeRow(int(runes[0])), true
	}
	return keyRow{}, false
}

// modelByteText is the text of the key of one byte that stands alone.
func modelByteText(b int) string {
	switch {
	case b < 0 || b > 127:
		return ""
	case b == 32:
		return "SPC"
	case b == 31:
		return "C-_"
	case b > 32 && b < 127:
		return string([]byte{byte(b)})
	}
	controls := strings.Fields("BAD C-a C-b C-c C-d C-e C-f C-g BACK TAB ENTER C-k C-l ENTER C-n C-o C-p C-q C-r C-s C-t C-u C-v C-w C-x C-y C-z ESC BAD BAD BAD")
	return append(controls, slices.Repeat([]string{"BACK"}, 128-len(controls))...)[b]
}

// someRunes are printable ones of one to four bytes, about the edges.
func someRunes() []int {
	return []int{32, 33, '-', '0', 'A', 'C', 'M', '[', '_', 'a', 'h', 'm', 'z', '~', 160, 161, 233, 2047, 2048, wide, 55295, 57344, 65533, 65535, 65536, 128512, impl.MaxRune}
}

// someKeys are all right keys but most of those of runes.
func someKeys() []keyRow {
	rows := slices.Clone(keyRows)
	for _, r := range someRunes() {
		rows = append(rows, runeRow(r))
	}
	return rows
}
