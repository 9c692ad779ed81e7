package tests

import (
	"bytes"
	"fmt"
	"slices"
	"strings"

	"loop.example/g00600/impl"
)

// The model knows no states: a decoder is what it has been sent and hasn't told yet, and that is cut, with what comes behind it, into the texts that are a key each.

// tooLong is what a decoder in DecLong has been sent; the first key of it has been told.
const tooLong = "\x1b[123456789"

func modelDec(d impl.Dec) bool {
	switch d.State {
	case 0:
		return len(d.Part) == 0 || modelBegins(d.Part)
	case 2:
		return len(d.Part) < 9 && !slices.ContainsFunc(d.Part, func(b byte) bool { return !goesOn(int(b)) })
	case 1, 3, 4:
		return len(d.Part) == 0
	}
	return false
}

// modelSent tells the bytes that bring a new decoder to be d.
func modelSent(d impl.Dec) string {
	return []string{"", "\x1b", "\x1b[", "\x1bO", tooLong}[d.State] + string(d.Part)
}

// modelDecode tells the keys by their texts, with a blank between them.
func modelDecode(d impl.Dec, text string) (impl.Dec, string) {
	if !modelDec(d) {
		return impl.Dec{}, ""
	}
	keys, out := modelCut(modelSent(d) + text)
	if d.State == 4 {
		keys = keys[1:]
	}
	return out, strings.Join(keys, " ")
}

func modelDecByte(d impl.Dec, b int) (impl.Dec, string) {
	if b < 0 || b > 255 {
		return impl.Dec{}, ""
	}
	return modelDecode(d, string([]byte{byte(b)}))
}

func modelDecTick(d impl.Dec) (impl.Dec, string) {
	keys := map[string]string{"": "", "\x1b": "ESC", "\x1b[": "M-[", "\x1bO": "M-O", tooLong: ""}
	if !modelDec(d) {
		return impl.Dec{}, ""
	}
	if key, has := keys[modelSent(d)]; has {
		return impl.Dec{}, key
	}
	return impl.Dec{}, "BAD"
}

// modelCut tells the keys of all that has been sent, and the decoder behind it.
func modelCut(text string) ([]string, impl.Dec) {
	var keys []string
	for text != "" {
		n, key := 0, ""
		switch {
		case strings.HasPrefix(text, "\x1b["):
			n, key = modelOfSequence(text)
		case strings.HasPrefix(text, "\x1bO"):
			n, key = modelOfTwo(text)
		case text[0] == 27:
			n, key = modelOfEscape(text)
		case text[0] < 128:
			n, key = 1, modelByteText(int(text[0]))
		default:
			n, key = modelOfHigh(text)
		}
		if key != "" {
			keys = append(keys, key)
		}
		if n == 0 {
			break
		}
		text = text[n:]
	}
	return keys, modelWaits(text)
}

// modelWaits tells the decoder of a rest that is waited behind.
func modelWaits(rest string) impl.Dec {
	digits, sequence := strings.CutPrefix(rest, "\x1b[")
	switch {
	case sequence && len(digits) > 8:
		return impl.Dec{State: 4}
	case sequence:
		return impl.Dec{State: 2, Part: []byte(digits)}
	case rest == "\x1bO":
		return impl.Dec{State: 3}
	case rest == "\x1b":
		return impl.Dec{State: 1}
	}
	return impl.Dec{Part: []byte(rest)}
}

// Each of these tells how many bytes are a key, and its text: none, where the rest of a text is waited behind.

func modelOfSequence(text string) (int, string) {
	n := 2
	for n < len(text) && goesOn(int(text[n])) {
		n++
	}
	long := n > 2+8
	switch {
	case n == len(text) && long:
		return 0, "BAD"
	case n == len(text):
		return 0, ""
	case text[n] == 27:
		return n, "BAD"
	case long:
		return n + 1, "BAD"
	}
	return n + 1, modelSequenceText(text[:n+1])
}

func modelSequenceText(whole string) string {
	switch whole {
	case "\x1b[1~", "\x1b[7~":
		return "HOME"
	case "\x1b[4~", "\x1b[8~":
		return "END"
	}
	for _, row := range namedRows() {
		if row.sent == whole {
			return row.text
		}
	}
	return "BAD"
}

func modelOfTwo(text string) (int, string) {
	switch {
	case len(text) == 2:
		return 0, ""
	case text[2] == 27:
		return 2, "BAD"
	}
	return 3, modelSequenceText("\x1b[" + text[2:3])
}

func modelOfEscape(text string) (int, string) {
	switch {
	case len(text) == 1:
		return 0, ""
	case text[1] == 8 || text[1] == 127:
		return 2, "MBACK"
	case text[1] > 32 && text[1] < 127:
		return 2, "M-" + text[1:2]
	}
	return 1, "ESC"
}

func modelOfHigh(text string) (int, string) {
	n := 1
	for modelBegins([]byte(text[:n])) {
		if n == len(text) {
			return 0, ""
		}
		n++
	}
	last := text[n-1]
	if r, whole := modelWhole([]byte(text[:n])); whole {
		if modelShown(r) {
			return n, runeRow(r).text
		}
		return n, "BAD"
	}
	if n > 1 && (last < 128 || modelBegins([]byte{last})) {
		return n - 1, "BAD"
	}
	return n, "BAD"
}

// textOfKeys tells keys by their texts, and a key that isn't right so that it meets no text.
func textOfKeys(keys []impl.Key) string {
	var texts []string
	for _, k := range keys {
		row, ok := modelKey(k)
		if !ok {
			row.text = fmt.Sprintf("wrong%v", k)
		}
		texts = append(texts, row.text)
	}
	return strings.Join(texts, " ")
}

func sameDec(a impl.Dec, b impl.Dec) bool {
	return a.State == b.State && bytes.Equal(a.Part, b.Part)
}

func cloneDec(d impl.Dec) impl.Dec {
	d.Part = slices.Clone(d.Part)
	return d
}

func plain(part string) impl.Dec { return impl.Dec{State: impl.DecPlain, Part: []byte(part)} }

func csi(part string) impl.Dec { return impl.Dec{State: impl.DecCsi, Part: []byte(part)} }

func inState(state int) impl.Dec { return impl.Dec{State: state} }

// partsOfRunes are beginnings of every kind, of runes of two, three and four bytes.
func partsOfRunes() []string {
	return []string{
		"\xc2", "\xc3", "\xdf", "\xe0", "\xe0\xa0", "\xe0\xbf", "\xe1", "\xe4", "\xe4\xb8", "\xed", "\xed\x80", "\xed\x9f", "\xee\x80", "\xef", "\xef\xbf",
		"\xf0", "\xf0\x90", "\xf0\x90\x80", "\xf0\x9f", "\xf0\x9f\x98", "\xf1\x80", "\xf3\xbf\xbf", "\xf4", "\xf4\x8f", "\xf4\x8f\xbf",
	}
}

// partsOfSequences are all right, from none to MaxPart bytes.
func partsOfSequences() []string {
	return []string{"", "0", "1", "2", "3", "4", "5", "6", "7", "8", "9", ";", "33", "03", "30", "3;", ";3", "1;5", "1234567", "12345678", "00000000", ";;;;;;;", ";;;;;;;;", "3;3;3;3;", "99999999"}
}

// someDecs are right ones of all states.
func someDecs() []impl.Dec {
	all := []impl.Dec{plain(""), inState(impl.DecEsc), inState(impl.DecSs3), inState(impl.DecLong)}
	for _, part := range partsOfRunes() {
		all = append(all, plain(part))
	}
	for _, part := range partsOfSequences() {
		all = append(all, csi(part))
	}
	return all
}

// farStates are below DecPlain, above DecLong, and like a state in their low bits.
func farStates() []int {
	const top = int(^uint(0) >> 1)
	return []int{-top - 1, -top, -top + 1, -1 << 32, -1<<32 + 2, -256, -254, -5, -4, -3, -2, -1, 5, 6, 7, 8, 255, 256, 257, 258, 260, 1 << 32, 1<<32 + 2, 1<<32 + 4, 1 << 62, top - 1, top}
}

func wrongDecs() []impl.Dec {
	var all []impl.Dec
	for _, state := range farStates() {
		all = append(all, inState(state), impl.Dec{State: state, Part: []byte("3")}, impl.Dec{State: state, Part: []byte("\xc3")})
	}
	for _, part := range append(wrongPartsOfRunes(), "1", ";", "[", "[3") {
		all = append(all, plain(part))
	}
	for _, part := range wrongPartsOfSequences() {
		all = append(all, csi(part))
	}
	for _, state := range []int{impl.DecEsc, impl.DecSs3, impl.DecLong} {
		for _, part := range []string{"\x00", "[", "O", "1", ";", "a", "\x1b", "\x80", "\xc3", "\xff", "12345678", "\xe4\xb8"} {
			all = append(all, impl.Dec{State: state, Part: []byte(part)})
		}
	}
	return all
}

func wrongPartsOfRunes() []string {
	parts := []string{"\x00", "\x1b", " ", "a", "\x7f", "\x80", "\xbf", "\xc0", "\xc1", "\xf5", "\xff", "\xc3a", "\xc3\xc3", "\xc3\xff", "\xe0\x80", "\xe0\x9f", "\xed\xa0", "\xf0\x8f", "\xf4\x90", "\xe4\xb8a", "a\xc3", "\xff\xc3", strings.Repeat("\xc3", 1000)}
	for _, r := range []int{128, 159, 160, 233, 2047, 2048, wide, 65535, 65536, 128512, impl.MaxRune} {
		whole := string(bytesOfRune(r))
		parts = append(parts, whole, whole+"\x80", whole+"\xc3", whole+whole[:1])
	}
	return slices.DeleteFunc(append(parts, formsThatAreNoRune()...), func(part string) bool { return modelBegins([]byte(part)) })
}

func wrongPartsOfSequences() []string {
	parts := []string{"123456789", ";;;;;;;;;", "1234567890", strings.Repeat("1", 1000), "\xc3", "\x1b", "[", "A", "~", "3~", "\x00", " ", "1 2", "-1"}
	for _, b := range []string{"/", ":", "<", "\x1b", "\x80", "\xff", "0\x00"} {
		parts = append(parts, b, "1"+b, b+"1", "1"+b+"2", "123"+b+"567", "1234567"+b, b+"1234567")
	}
	return parts
}
