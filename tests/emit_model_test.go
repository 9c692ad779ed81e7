package tests

import (
	"regexp"
	"slices"
	"strconv"
	"strings"

	"loop.example/g00600/impl"
)

// The model is chapter 11 sentence by sentence: all the ways of a step are written down and put in order by their length, and sequences are cut out by a pattern.

func modelGoto(x int, y int) string {
	if x < 0 || x > 199 || y < 0 || y > 199 {
		return ""
	}
	return "\x1b[" + strconv.Itoa(y+1) + ";" + strconv.Itoa(x+1) + "H"
}

// modelWays are the ways that may be taken to a place that a right grid has, in the order in which they are named.
func modelWays(g impl.Grid, x int, y int) []string {
	var ways []string
	may := func(holds bool, way string) {
		if holds {
			ways = append(ways, way)
		}
	}
	inRow := y == g.Y && !g.Wrap
	may(inRow && x == g.X, "")
	may(x == 0 && y == g.Y, "\x0d")
	for n := 1; n <= 3; n++ {
		may(inRow && g.X-x == n, strings.Repeat("\x08", n))
	}
	may(inRow && x > g.X, "\x1b["+strconv.Itoa(x-g.X)+"C")
	may(inRow && g.X > x, "\x1b["+strconv.Itoa(g.X-x)+"D")
	may(true, modelGoto(x, y))
	return ways
}

// modelStep asks for a grid that is right.
func modelStep(g impl.Grid, x int, y int) (string, bool) {
	if x < 0 || x > g.W-1 || y < 0 || y > g.H-1 {
		return "", false
	}
	ways := modelWays(g, x, y)
	slices.SortStableFunc(ways, func(a string, b string) int { return len(a) - len(b) })
	return ways[0], true
}

func modelShown(r int) bool {
	return isRune(r) && r >= 32 && !(127 <= r && r <= 159)
}

func modelEmitted(l []int) string {
	text := ""
	for _, r := range l {
		if modelShown(r) {
			text += string(bytesOfRune(r))
		}
	}
	return text
}

var aSequence = regexp.MustCompile(`(?s)\x1b(\[[0-9;]*.?)?`)

// modelCost has each byte as a rune of its own, so that the pattern's dot is any one byte.
func modelCost(text string) int {
	var runes []rune
	for i := range len(text) {
		runes = append(runes, rune(text[i]))
	}
	return len([]rune(aSequence.ReplaceAllString(string(runes), "")))
}
