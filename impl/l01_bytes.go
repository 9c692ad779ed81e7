package impl

import (
	"strconv"
	"strings"
)

const MaxBytes = 65536
const MaxNum = 4294967295

const crcTurn = 3988292384
const hexDigits = "0123456789abcdef"

func PutNum(b []byte, n int, size int) ([]byte, bool) {
	if !sizeOk(size) || n < 0 || n >= 1<<(8*size) || len(b) > MaxBytes-size {
		return nil, false
	}
	// Appending to b itself could write into what it shares with others.
	out := make([]byte, 0, len(b)+size)
	out = append(out, b...)
	for i := range size {
		out = append(out, byte(n>>(8*(size-1-i))))
	}
	return out, true
}

func sizeOk(size int) bool {
	return size >= 1 && size <= 4
}

func GetNum(b []byte, at int, size int) (int, bool) {
	// at is held against a difference: at + size could wrap round.
	if !sizeOk(size) || at < 0 || at > len(b)-size {
		return 0, false
	}
	n := 0
	for i := range size {
		n = n<<8 | int(b[at+i])
	}
	return n, true
}

func Crc32(b []byte) int {
	register := ^uint32(0)
	take := func(c byte) {
		register ^= uint32(c)
		for range 8 {
			low := register & 1
			register >>= 1
			if low == 1 {
				register ^= crcTurn
			}
		}
	}
	for _, c := range b {
		take(c)
	}
	return int(^register)
}

func NumText(n int) string {
	if n < 0 || n > MaxNum {
		return ""
	}
	return strconv.Itoa(n)
}

func TextNum(s string) (int, bool) {
	n, err := strconv.Atoi(s)
	// Writing it back finds a sign, a nought ahead and a number that is too great.
	if err != nil || NumText(n) != s {
		return 0, false
	}
	return n, true
}

func HexOf(b []byte) string {
	out := make([]byte, 0, 2*len(b))
	for _, c := range b {
		out = append(out, hexDigits[c>>4], hexDigits[c&15])
	}
	return string(out)
}

func Unhex(s string) ([]byte, bool) {
	if len(s)%2 != 0 || len(s) > 2*MaxBytes {
		return nil, false
	}
	out := make([]byte, 0, len(s)/2)
	for i := range len(s) / 2 {
		high := strings.IndexByte(hexDigits, s[2*i])
		low := strings.IndexByte(hexDigits, s[2*i+1])
		if high < 0 || low < 0 {
			return nil, false
		}
		out = append(out, byte(16*high+low))
	}
	return out, true
}

func Parts(s string) []string {
	return copyTexts(strings.Split(s, " "))
}

func Lines(s string) []string {
	lines := strings.Split(s, "\n")
	last := len(lines) - 1
	// A text that ends with byte 10 has no line behind it.
	if lines[last] == "" {
		lines = lines[:last]
	}
	return copyTexts(lines)
}

// What Split cuts still lies in the memory of the text; an answer must not.
func copyTexts(l []string) []string {
	out := make([]string, 0, len(l))
	for _, s := range l {
		out = append(out, strings.Clone(s))
	}
	return out
}
