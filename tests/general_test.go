package tests

import (
	"bytes"
	"unsafe"
)

// extremes are the ints at which sums, differences and shifts wrap round.
func extremes() []int {
	const top = int(^uint(0) >> 1)
	return []int{-top - 1, -top, -(1 << 32), -1, 0, 1, 1<<31 - 1, 1 << 31, 1<<32 - 1, 1 << 32, top - 1, top}
}

// textsOver tells every text of at most max signs of alphabet.
func textsOver(alphabet string, max int) []string {
	all := []string{""}
	from := 0
	for range max {
		to := len(all)
		for _, s := range all[from:to] {
			for i := range len(alphabet) {
				all = append(all, s+alphabet[i:i+1])
			}
		}
		from = to
	}
	return all
}

// someBytes tells n bytes with little order in them, always the same.
func someBytes(n int, seed uint32) []byte {
	b := make([]byte, n)
	for i := range b {
		seed = seed*1664525 + 1013904223
		b[i] = byte(seed >> 24)
	}
	return b
}

// roomy tells b with spare room behind it, and the whole of that memory.
func roomy(b []byte) (arg []byte, whole []byte) {
	whole = append(bytes.Clone(b), bytes.Repeat([]byte{170}, 16)...)
	return whole[:len(b)], whole
}

// spoil overwrites all that an answer's memory can reach.
func spoil(b []byte) {
	b = b[:cap(b)]
	for i := range b {
		b[i] = ^b[i]
	}
}

// textsMeet says whether two texts lie, in part, in the same memory.
func textsMeet(a string, b string) bool {
	if len(a) == 0 || len(b) == 0 {
		return false
	}
	from := uintptr(unsafe.Pointer(unsafe.StringData(a)))
	other := uintptr(unsafe.Pointer(unsafe.StringData(b)))
	return from < other+uintptr(len(b)) && other < from+uintptr(len(a))
}
