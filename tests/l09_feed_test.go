package tests

import (
	"bytes"
	"strings"
	"testing"

	"loop.example/g00600/impl"
)

// textsThatAreCut have runes and sequences within which a cut may fall.
func textsThatAreCut() []string {
	return []string{
		"", "a", "é", "中", "😀", "a中b", "\x1b[H", "\x1b[2;3H", "\x1b[12;34;56;78;90m", "\x1b[2J", "\x1b[K",
		"ab\x1b[2Dé中\x1b[K\a\r\n😀\x1b[A", "\x1b[2;2H中\x1b[1;1H字\x1b[1K", "\xe4\xb8\x1b[31m\xad\xf0\x9f", "\x1b\x1b[A[A\x1b[", "中中中中\n\r\b\x1b[B\x1b[9999C😀",
		"\xf0\x9f\x98", "\x1b[1;2", "\x1b[;;;;;7", "\x1b", "\xc3\xc3\xa9", "\x1b[2\xe4\xb8\xad",
	}
}

func TestVtFeedInParts(t *testing.T) {
	for _, v := range someVts() {
		for _, text := range textsThatAreCut() {
			wantFed(t, v, text, modelFed(v, text))
		}
	}
}

func TestVtFeedOfNothing(t *testing.T) {
	for _, v := range someVts() {
		wantVt(t, "VtFeed of no list", v, impl.VtFeed(v, nil), v)
		wantVt(t, "VtFeed of an empty list", v, impl.VtFeed(v, []byte{}), v)
	}
}

func TestVtFeedOfTerminalsThatAreNotRight(t *testing.T) {
	for _, v := range wrongVts() {
		for _, text := range []string{"", "a", "中", "\a", "\x1b[2J", "\xff", "m", strings.Repeat("\x1b[H", 50)} {
			wantNoVt(t, "VtFeed", v, impl.VtFeed(v, []byte(text)))
		}
	}
}

// A screen as a program paints it.
func TestVtFeedOfAPaintedScreen(t *testing.T) {
	v, _ := impl.VtNew(10, 4)
	v = wantScreen(t, v, "\x1b[H\x1b[2J$ ls -l", 7, 0, false, "$ ls -l", "", "", "")
	v = wantScreen(t, v, "\r\nfile 中字\r\nother\r\n", 0, 3, false, "$ ls -l", "file 中字", "other", "")
	v = wantScreen(t, v, "$ echo 中中", 2, 3, false, "file 中字", "other", "$ echo 中", "中")
	v = wantScreen(t, v, "\x1b[A\x1b[2C\x1b[K", 4, 2, false, "file 中字", "other", "$ ec", "中")
	v = wantScreen(t, v, "\x1b[1;6H\x1b[J\b\b\x1b[1K", 3, 0, false, "", "", "", "")
	v = wantScreen(t, v, "\x1b[4;10Hxy", 1, 3, false, "", "", "         x", "y")
	wantFed(t, v, "\a\a\x1b[", inSequence(withBells(v, 2)))
}

// More bytes than a greatest list has in other chapters.
func TestVtFeedOfMuch(t *testing.T) {
	v, _ := impl.VtNew(3, 2)
	much := bytes.Repeat([]byte("\aa\x1b[3;4中\n"), 20000)
	got := impl.VtFeed(v, much)
	if !impl.VtOk(got) || got.Bells != 20000 || got.State != impl.VtPlain || len(got.Args) != 0 || len(got.Part) != 0 {
		t.Errorf("behind much the terminal is %s", brief(got))
	}
	got = impl.VtFeed(v, bytes.Repeat([]byte{7}, impl.MaxBells+5))
	if got.Bells != impl.MaxBells || !sameGrid(got.Grid, v.Grid) {
		t.Errorf("behind too many bells the terminal is %s", brief(got))
	}
}
