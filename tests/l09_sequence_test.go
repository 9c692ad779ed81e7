package tests

import (
	"strconv"
	"strings"
	"testing"

	"loop.example/g00600/impl"
)

func wantArgs(t *testing.T, given []int, text string, args ...int) {
	t.Helper()
	for _, v := range []impl.Vt{someVt(), vtOf(wrappedIn(someGrid(), 3))} {
		wantFed(t, inSequence(v, given...), text, inSequence(v, args...))
	}
}

func TestVtCsiOfDigits(t *testing.T) {
	for d := range 10 {
		text := strconv.Itoa(d)
		wantArgs(t, nil, text, d)
		wantArgs(t, []int{0}, text, d)
		wantArgs(t, []int{1}, text, 10+d)
		wantArgs(t, []int{98}, text, 980+d)
		wantArgs(t, []int{998}, text, 9980+d)
		wantArgs(t, []int{999}, text, 9990+d)
		wantArgs(t, []int{1000}, text, 9999)
		wantArgs(t, []int{1001}, text, 9999)
		wantArgs(t, []int{9998}, text, 9999)
		wantArgs(t, []int{9999}, text, 9999)
		wantArgs(t, []int{1, 2}, text, 1, 20+d)
		wantArgs(t, []int{5, 0}, text, 5, d)
		wantArgs(t, []int{1, 2, 3, 4}, text, 1, 2, 3, 40+d)
		wantArgs(t, []int{9999, 9999, 9999, 0}, text, 9999, 9999, 9999, d)
	}
	wantArgs(t, nil, "007", 7)
	wantArgs(t, nil, "000", 0)
	wantArgs(t, nil, "1234", 1234)
	wantArgs(t, nil, "9998", 9998)
	wantArgs(t, nil, "9999", 9999)
	wantArgs(t, nil, "10000", 9999)
	wantArgs(t, nil, "12345", 9999)
	wantArgs(t, nil, "9223372036854775808", 9999)
	wantArgs(t, nil, "18446744073709551617", 9999)
	wantArgs(t, nil, strings.Repeat("9", 400), 9999)
	wantArgs(t, nil, strings.Repeat("0", 400)+"12", 12)
}

func TestVtCsiOfSemicolons(t *testing.T) {
	wantArgs(t, nil, "")
	wantArgs(t, nil, ";", 0, 0)
	wantArgs(t, nil, ";;", 0, 0, 0)
	wantArgs(t, nil, ";;;", 0, 0, 0, 0)
	wantArgs(t, nil, ";;;;", 0, 0, 0, 0)
	wantArgs(t, nil, ";;;;;;;;;", 0, 0, 0, 0)
	wantArgs(t, []int{0}, ";", 0, 0)
	wantArgs(t, []int{5}, ";", 5, 0)
	wantArgs(t, []int{5, 6}, ";", 5, 6, 0)
	wantArgs(t, []int{5, 6, 7}, ";", 5, 6, 7, 0)
	wantArgs(t, []int{5, 6, 7, 8}, ";", 5, 6, 7, 8)
	wantArgs(t, nil, "1;2", 1, 2)
	wantArgs(t, nil, ";2", 0, 2)
	wantArgs(t, nil, "1;;3", 1, 0, 3)
	wantArgs(t, nil, "1;2;3;4", 1, 2, 3, 4)
	wantArgs(t, nil, "12;345;6789;98765", 12, 345, 6789, 9999)
	// For a fifth there is no place: its digits go on with the fourth.
	wantArgs(t, nil, "1;2;3;4;5", 1, 2, 3, 45)
	wantArgs(t, nil, "1;2;3;4;;6;7", 1, 2, 3, 467)
}

// goesOn is true of the bytes behind which a sequence isn't at its end.
func goesOn(b int) bool { return '0' <= b && b <= '9' || b == ';' }

func argLists() [][]int {
	return [][]int{nil, {0}, {1}, {2}, {7}, {9999}, {0, 0}, {2, 3}, {0, 2}, {1, 2, 3, 4}}
}

func TestVtCsiOfSequencesThatAreNotKnown(t *testing.T) {
	for _, v := range []impl.Vt{someVt(), vtOf(wrappedIn(someGrid(), 3))} {
		for b := range 256 {
			if goesOn(b) || strings.IndexByte("ABCDHJK", byte(b)) >= 0 {
				continue
			}
			for _, args := range argLists() {
				wantFed(t, inSequence(v, args...), string([]byte{byte(b)}), v)
			}
		}
	}
}

// What breaks a sequence off does nothing of its own, and what comes behind it is plain.
func TestVtCsiBrokenOff(t *testing.T) {
	v := vtOf(cursorAt(gridOf(5, "ab", "cd"), 2, 0))
	for _, b := range []string{"\x00", "\a", "\b", "\n", "\r", "\x18", "\x1b", " ", "!", "/", ":", "<", "?", "\x7f", "\x80", "\xc3", "\xff"} {
		wantScreen(t, v, "\x1b[2"+b+"J", 3, 0, false, "abJ", "cd")
		wantScreen(t, v, "\x1b["+b+"[", 3, 0, false, "ab[", "cd")
		wantScreen(t, v, "\x1b[1;2"+b+"\x1b[B", 2, 1, false, "ab", "cd")
	}
	wantScreen(t, v, "\x1b[\xc3\xa9x", 3, 0, false, "abx", "cd")
	wantScreen(t, v, "\x1b[?5hx", 4, 0, true, "ab5hx", "cd")
}

func TestVtCsiLeavesNoArgs(t *testing.T) {
	v := vtOf(cursorAt(gridOf(5, "", "", "", ""), 0, 3))
	wantScreen(t, v, "\x1b[3A\x1b[B", 0, 1, false, "", "", "", "")
	wantScreen(t, v, "\x1b[3m\x1b[A", 0, 2, false, "", "", "", "")
	wantScreen(t, v, "\x1b[3\a\x1b[A", 0, 2, false, "", "", "", "")
	wantScreen(t, v, "\x1b[1;2;3;4C\x1b[4;3H", 2, 3, false, "", "", "", "")
}

// wantMoved asks for a cursor elsewhere, no Wrap, and no cell changed.
func wantMoved(t *testing.T, given impl.Grid, text string, x int, y int) {
	t.Helper()
	want := cursorAt(cloneGrid(given), x, y)
	want.Wrap = false
	wantFed(t, vtOf(given), "\x1b["+text, vtOf(want))
}

func TestVtCsiOfTheFourWays(t *testing.T) {
	// On a grid of 7 columns and 6 rows, from column 3 of row 3.
	g := cursorAt(gridOf(7, "中abc中", "", "a中b中d", "中中中g", "hij", "字"), 3, 3)
	for args, n := range map[string]int{"": 1, "0": 1, "1": 1, "2": 2, "3": 3, "0;3": 1, ";2": 1, "2;3": 2, "2;": 2, "1;3;3;3": 1, "002": 2, "3;9999": 3} {
		wantMoved(t, g, args+"A", 3, 3-n)
		wantMoved(t, g, args+"C", 3+n, 3)
		wantMoved(t, g, args+"D", 3-n, 3)
		wantMoved(t, cursorAt(g, 3, 2), args+"B", 3, 2+n)
	}
	for _, args := range []string{"4", "5", "6", "7", "40", "200", "9999", "99999", "9999;1"} {
		wantMoved(t, g, args+"A", 3, 0)
		wantMoved(t, g, args+"B", 3, 5)
		wantMoved(t, g, args+"C", 6, 3)
		wantMoved(t, g, args+"D", 0, 3)
	}
}

func TestVtCsiOfTheFourWaysAtTheEdges(t *testing.T) {
	g := gridOf(4, "abcd", "中中", "e中f")
	for _, args := range []string{"", "0", "1", "2", "9999"} {
		wantMoved(t, cursorAt(g, 2, 0), args+"A", 2, 0)
		wantMoved(t, cursorAt(g, 2, 2), args+"B", 2, 2)
		wantMoved(t, cursorAt(g, 3, 1), args+"C", 3, 1)
		wantMoved(t, cursorAt(g, 0, 1), args+"D", 0, 1)
		wantMoved(t, wrappedIn(g, 0), args+"A", 3, 0)
		wantMoved(t, wrappedIn(g, 2), args+"B", 3, 2)
		wantMoved(t, wrappedIn(g, 1), args+"C", 3, 1)
	}
	wantMoved(t, wrappedIn(g, 1), "A", 3, 0)
	wantMoved(t, wrappedIn(g, 1), "B", 3, 2)
	wantMoved(t, wrappedIn(g, 1), "D", 2, 1)
	wantMoved(t, wrappedIn(g, 1), "3D", 0, 1)
}

func TestVtCsiOfAPlace(t *testing.T) {
	for _, g := range []impl.Grid{cursorAt(gridOf(5, "中ab", "", "c中d", "e"), 3, 1), wrappedIn(gridOf(5, "中ab", "", "c中d", "e"), 3)} {
		wantMoved(t, g, "H", 0, 0)
		wantMoved(t, g, ";H", 0, 0)
		wantMoved(t, g, "0H", 0, 0)
		wantMoved(t, g, "0;0H", 0, 0)
		wantMoved(t, g, "1H", 0, 0)
		wantMoved(t, g, "1;1H", 0, 0)
		wantMoved(t, g, "2H", 0, 1)
		wantMoved(t, g, "2;H", 0, 1)
		wantMoved(t, g, "2;0H", 0, 1)
		wantMoved(t, g, ";2H", 1, 0)
		wantMoved(t, g, "0;2H", 1, 0)
		wantMoved(t, g, "3;2H", 1, 2)
		wantMoved(t, g, "2;3H", 2, 1)
		wantMoved(t, g, "4;5H", 4, 3)
		wantMoved(t, g, "5;5H", 4, 3)
		wantMoved(t, g, "4;6H", 4, 3)
		wantMoved(t, g, "1;6H", 4, 0)
		wantMoved(t, g, "5;1H", 0, 3)
		wantMoved(t, g, "9999;9999H", 4, 3)
		wantMoved(t, g, "99999H", 0, 3)
		wantMoved(t, g, ";99999H", 4, 0)
		wantMoved(t, g, "3;2;1H", 1, 2)
		wantMoved(t, g, "3;2;1;1H", 1, 2)
		wantMoved(t, g, "3;2;1;1;1H", 1, 2)
		wantMoved(t, g, ";;3;4H", 0, 0)
	}
	big, _ := modelGridNew(200, 40)
	wantMoved(t, big, "40;200H", 199, 39)
	wantMoved(t, big, "39;199H", 198, 38)
	high, _ := modelGridNew(40, 200)
	wantMoved(t, high, "200;40H", 39, 199)
}

// wantErased asks for other rows, the cursor and Wrap as they were.
func wantErased(t *testing.T, given impl.Grid, text string, rows ...string) {
	t.Helper()
	wantScreen(t, vtOf(given), "\x1b["+text, given.X, given.Y, given.Wrap, rows...)
}

func TestVtCsiErasesTheScreen(t *testing.T) {
	g := cursorAt(gridOf(5, "abcde", "fghij", "klmno"), 2, 1)
	for _, args := range []string{"", "0", "00", ";", "0;2", ";1", ";;2", "0;1;2;2"} {
		wantErased(t, g, args+"J", "abcde", "fg", "")
	}
	for _, args := range []string{"1", "01", "1;2", "1;0", "1;;;"} {
		wantErased(t, g, args+"J", "", "   ij", "klmno")
	}
	for _, args := range []string{"2", "2;0", "2;1", "2;1;1;1"} {
		wantErased(t, g, args+"J", "", "", "")
	}
	for _, args := range []string{"3", "3;2", "4", "10", "20", "21", "9999", "99999"} {
		wantErased(t, g, args+"J", "abcde", "fghij", "klmno")
	}
}

func TestVtCsiErasesTheRow(t *testing.T) {
	g := cursorAt(gridOf(5, "abcde", "fghij", "klmno"), 2, 1)
	for _, args := range []string{"", "0", "00", ";", "0;2", ";1", ";;2", "0;1;2;2"} {
		wantErased(t, g, args+"K", "abcde", "fg", "klmno")
	}
	for _, args := range []string{"1", "01", "1;2", "1;0", "1;;;"} {
		wantErased(t, g, args+"K", "abcde", "   ij", "klmno")
	}
	for _, args := range []string{"2", "2;0", "2;1", "2;1;1;1"} {
		wantErased(t, g, args+"K", "abcde", "", "klmno")
	}
	for _, args := range []string{"3", "3;2", "4", "10", "20", "21", "9999", "99999"} {
		wantErased(t, g, args+"K", "abcde", "fghij", "klmno")
	}
}

func TestVtCsiErasesAtTheEdges(t *testing.T) {
	g := gridOf(3, "abc", "def", "ghi")
	for _, at := range []impl.Grid{cursorAt(g, 2, 1), wrappedIn(g, 1)} {
		wantErased(t, at, "J", "abc", "de", "")
		wantErased(t, at, "1J", "", "", "ghi")
		wantErased(t, at, "2J", "", "", "")
		wantErased(t, at, "K", "abc", "de", "ghi")
		wantErased(t, at, "1K", "abc", "", "ghi")
		wantErased(t, at, "2K", "abc", "", "ghi")
		wantErased(t, at, "3K", "abc", "def", "ghi")
	}
	wantErased(t, cursorAt(g, 0, 0), "J", "", "", "")
	wantErased(t, cursorAt(g, 0, 0), "1J", " bc", "def", "ghi")
	wantErased(t, cursorAt(g, 0, 0), "K", "", "def", "ghi")
	wantErased(t, cursorAt(g, 0, 0), "1K", " bc", "def", "ghi")
	wantErased(t, cursorAt(g, 0, 0), "2K", "", "def", "ghi")
	for _, at := range []impl.Grid{cursorAt(g, 2, 2), wrappedIn(g, 2)} {
		wantErased(t, at, "J", "abc", "def", "gh")
		wantErased(t, at, "1J", "", "", "")
		wantErased(t, at, "K", "abc", "def", "gh")
		wantErased(t, at, "1K", "abc", "def", "")
	}
}

// A rune of which one half is erased goes as a whole.
func TestVtCsiErasesOnAWideRune(t *testing.T) {
	g := gridOf(6, "a中bc", "d中中e", "f中g")
	left, right := cursorAt(g, 1, 1), cursorAt(g, 2, 1)
	wantErased(t, left, "J", "a中bc", "d", "")
	wantErased(t, right, "J", "a中bc", "d", "")
	wantErased(t, left, "K", "a中bc", "d", "f中g")
	wantErased(t, right, "K", "a中bc", "d", "f中g")
	wantErased(t, left, "1J", "", "   中e", "f中g")
	wantErased(t, right, "1J", "", "   中e", "f中g")
	wantErased(t, left, "1K", "a中bc", "   中e", "f中g")
	wantErased(t, right, "1K", "a中bc", "   中e", "f中g")
	wantErased(t, left, "2K", "a中bc", "", "f中g")
	wantErased(t, right, "2J", "", "", "")
	wantErased(t, cursorAt(g, 3, 1), "K", "a中bc", "d中", "f中g")
	wantErased(t, cursorAt(g, 4, 1), "1K", "a中bc", "     e", "f中g")
	edge := gridOf(4, "ab中", "中cd", "中中")
	wantErased(t, cursorAt(edge, 3, 0), "K", "ab", "中cd", "中中")
	wantErased(t, wrappedIn(edge, 0), "K", "ab", "中cd", "中中")
	wantErased(t, wrappedIn(edge, 0), "1J", "", "中cd", "中中")
	wantErased(t, cursorAt(edge, 0, 1), "1J", "", "  cd", "中中")
	wantErased(t, cursorAt(edge, 0, 1), "1K", "ab中", "  cd", "中中")
	wantErased(t, cursorAt(edge, 1, 1), "J", "ab中", "", "")
	wantErased(t, wrappedIn(edge, 2), "J", "ab中", "中cd", "中")
	wantErased(t, cursorAt(edge, 2, 2), "1J", "", "", "")
}

// Every small grid with every cursor, and every known sequence with arguments about the edges.
func TestSequencesOfAllSmallGrids(t *testing.T) {
	for _, sides := range [][2]int{{2, 1}, {3, 1}, {4, 1}, {2, 2}, {3, 2}} {
		for _, g := range smallGrids(sides[0], sides[1]) {
			for _, final := range "ABCDHJKm" {
				for _, args := range [][]int{nil, {0}, {1}, {2}, {3}, {4}, {9999}, {0, 2}, {2, 0}, {2, 2}, {1, 9999}} {
					v := inSequence(vtOf(g), args...)
					wantVt(t, "VtByte "+string(final), v, impl.VtByte(v, int(final)), modelByte(v, int(final)))
				}
			}
			for _, b := range []int{8, 10, 13, 'x', 127} {
				wantVt(t, "VtByte "+strconv.Itoa(b), vtOf(g), impl.VtByte(vtOf(g), b), modelByte(vtOf(g), b))
			}
		}
	}
}
