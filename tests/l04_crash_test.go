package tests

import (
	"bytes"
	"slices"
	"strings"
	"testing"

	"loop.example/g00600/impl"
)

func TestTear(t *testing.T) {
	cases := []struct {
		what, safe, body string
		steps            []string
	}{
		{"grown", "ab", "abcd", []string{"ab", "abc", "abcd"}},
		{"shrunk", "abcd", "ab", []string{"abcd", "abc", "ab"}},
		{"alike", "abc", "abc", []string{"abc"}},
		{"parted in the midst", "abcd", "abxyz", []string{"abcd", "abc", "ab", "abx", "abxy", "abxyz"}},
		{"parted at the first byte", "ab", "xb", []string{"ab", "a", "", "x", "xb"}},
		{"parted at the last byte", "abc", "abd", []string{"abc", "ab", "abd"}},
		{"alike again behind where they part", "abxcd", "abycd", []string{"abxcd", "abxc", "abx", "ab", "aby", "abyc", "abycd"}},
		{"nothing safe", "", "abc", []string{"", "a", "ab", "abc"}},
		{"nothing seen", "abc", "", []string{"abc", "ab", "a", ""}},
		{"nothing at all", "", "", []string{""}},
		{"zero bytes", "\x00\x00", "\x00", []string{"\x00\x00", "\x00"}},
		{"bytes that are no text", "\xff\xfe", "\xff\x00\xfe", []string{"\xff\xfe", "\xff", "\xff\x00", "\xff\x00\xfe"}},
		{"a byte repeated", "aaa", "aaaa", []string{"aaa", "aaaa"}},
	}
	for _, c := range cases {
		last := len(c.steps) - 1
		if got := impl.TearSteps([]byte(c.safe), []byte(c.body)); got != last {
			t.Errorf("%s: TearSteps is %d; want %d", c.what, got, last)
		}
		for k := -3; k <= last+3; k++ {
			want := c.steps[min(max(k, 0), last)]
			if got := impl.Tear([]byte(c.safe), []byte(c.body), k); string(got) != want {
				t.Errorf("%s: Tear at %d is %q; want %q", c.what, k, got, want)
			}
		}
	}
}

func TestTearFarFromItsSteps(t *testing.T) {
	safe, body := []byte("abcd"), []byte("abxyz")
	for _, k := range extremes() {
		want := modelTear(safe, body, k)
		if got := impl.Tear(safe, body, k); !bytes.Equal(got, want) {
			t.Errorf("Tear at %d is %q; want %q", k, got, want)
		}
		if got := impl.Tear(nil, nil, k); len(got) != 0 {
			t.Errorf("Tear of nothing at %d is %q", k, got)
		}
	}
	if impl.TearSteps(nil, nil) != 0 || impl.TearSteps(nil, []byte{}) != 0 || impl.TearSteps([]byte{}, nil) != 0 {
		t.Error("nothing has steps to nothing")
	}
}

// oneByteMore says whether long is short and one byte behind it.
func oneByteMore(short []byte, long []byte) bool {
	return len(long) == len(short)+1 && bytes.HasPrefix(long, short)
}

// wantTears asks for every step of a tear: as the model has it, the first being safe, the last body, and each a byte away from the one ahead of it.
func wantTears(t *testing.T, safe []byte, body []byte) {
	t.Helper()
	want := modelTears(safe, body)
	last := impl.TearSteps(safe, body)
	if last != len(want)-1 {
		t.Fatalf("TearSteps of %q and %q is %d; want %d", safe, body, last, len(want)-1)
	}
	var before []byte
	for k := range last + 1 {
		got := impl.Tear(safe, body, k)
		if !bytes.Equal(got, want[k]) {
			t.Fatalf("Tear of %q and %q at %d is %q; want %q", safe, body, k, got, want[k])
		}
		if k > 0 && !oneByteMore(before, got) && !oneByteMore(got, before) {
			t.Fatalf("Tear of %q and %q turns %q into %q at %d", safe, body, before, got, k)
		}
		before = got
	}
	if !bytes.Equal(impl.Tear(safe, body, 0), safe) || !bytes.Equal(impl.Tear(safe, body, last), body) {
		t.Fatalf("the way from %q to %q begins or ends elsewhere", safe, body)
	}
	if !bytes.Equal(impl.Tear(safe, body, -1), safe) || !bytes.Equal(impl.Tear(safe, body, last+1), body) {
		t.Fatalf("there is something beyond the way from %q to %q", safe, body)
	}
}

func TestTearOfAllShortContents(t *testing.T) {
	all := textsOver("ab", 6)
	for _, safe := range all {
		for _, body := range all {
			wantTears(t, []byte(safe), []byte(body))
		}
	}
	all = textsOver("\x00\x80\xff", 3)
	for _, safe := range all {
		for _, body := range all {
			wantTears(t, []byte(safe), []byte(body))
		}
	}
}

func TestTearOfLongContents(t *testing.T) {
	b := someBytes(3000, 9)
	other := bytes.Clone(b)
	other[1700]++
	for _, pair := range [][2][]byte{{b, other}, {b, b[:1000]}, {b[:1000], b}, {b, b}, {nil, b}, {b, nil}, {b[1:], b}, {other[:1701], b}} {
		wantTears(t, pair[0], pair[1])
	}
	whole := make([]byte, 2*impl.MaxDisk)
	if got := impl.TearSteps(whole, append([]byte{1}, whole...)); got != 4*impl.MaxDisk+1 {
		t.Errorf("TearSteps of contents longer than a disk is %d", got)
	}
}

func TestTearIsNewMemory(t *testing.T) {
	for _, pair := range [][2]string{{"abcd", "abxyz"}, {"ab", "abcd"}, {"abcd", "ab"}, {"abc", "abc"}, {"", "abc"}, {"abc", ""}, {"", ""}} {
		safe, wholeSafe := roomy([]byte(pair[0]))
		body, wholeBody := roomy([]byte(pair[1]))
		beforeSafe, beforeBody := bytes.Clone(wholeSafe), bytes.Clone(wholeBody)
		steps := impl.TearSteps(safe, body)
		for k := -1; k <= steps+1; k++ {
			got := impl.Tear(safe, body, k)
			again := impl.Tear(safe, body, k)
			spoil(got)
			if !bytes.Equal(again, modelTear([]byte(pair[0]), []byte(pair[1]), k)) {
				t.Errorf("two answers of Tear of %q at %d share memory", pair, k)
			}
			if !bytes.Equal(wholeSafe, beforeSafe) || !bytes.Equal(wholeBody, beforeBody) {
				t.Fatalf("Tear of %q at %d changes an argument, or shares its memory", pair, k)
			}
		}
	}
}

func wantCrash(t *testing.T, d impl.Disk, turns int, cuts []int) impl.Disk {
	t.Helper()
	want, wantOk := modelCrash(d, turns, cuts)
	got, ok := impl.DiskCrash(d, turns, cuts)
	if ok != wantOk || !sameDisk(got, want) {
		t.Fatalf("DiskCrash of %+v\nat %d, %v\nis %+v, %v\nwant %+v, %v", d, turns, cuts, got, ok, want, wantOk)
	}
	return got
}

// left is a node behind a crash.
func left(id int, content string) impl.Node {
	return impl.Node{Id: id, Body: []byte(content), Safe: []byte(content)}
}

func wantLeft(t *testing.T, turns int, cuts []int, kept []impl.Link, nodes ...impl.Node) {
	t.Helper()
	want := impl.Disk{Room: 20, Fuse: -1, Next: 12, Nodes: nodes, Kept: kept}
	got, ok := impl.DiskCrash(someDisk(), turns, cuts)
	if !ok || !sameDisk(got, want) {
		t.Errorf("DiskCrash at %d, %v is %+v, %v\nwant %+v", turns, cuts, got, ok, want)
	}
	wantCrash(t, someDisk(), turns, cuts)
}

func TestDiskCrashAtEachTurn(t *testing.T) {
	ba, b, hist := impl.Link{Name: "ba", Id: 2}, impl.Link{Name: "b", Id: 7}, impl.Link{Name: "hist", Id: 3}
	temp, a, newer := impl.Link{Name: "temp", Id: 11}, impl.Link{Name: "a", Id: 2}, impl.Link{Name: "hist", Id: 11}
	n2, n3, n7, n11 := left(2, "abcdef"), left(3, ""), left(7, "xy"), left(11, "n")
	for _, turns := range []int{0, -1, -2, -1 << 63} {
		wantLeft(t, turns, nil, []impl.Link{b, ba, hist}, n2, n3, n7)
	}
	wantLeft(t, 1, nil, []impl.Link{b, ba, hist, temp}, n2, n3, n7, n11)
	wantLeft(t, 2, nil, []impl.Link{ba, hist, temp}, n2, n3, n11)
	wantLeft(t, 3, nil, []impl.Link{a, hist, temp}, n2, n3, n11)
	for _, turns := range []int{4, 5, 100, 1<<63 - 1} {
		wantLeft(t, turns, nil, []impl.Link{a, newer}, n2, n11)
	}
}

func TestDiskCrashAtEachCut(t *testing.T) {
	kept := []impl.Link{{Name: "a", Id: 2}, {Name: "hist", Id: 3}, {Name: "temp", Id: 11}}
	cut := func(cuts []int, first string, second string, third string) {
		t.Helper()
		wantLeft(t, 3, cuts, kept, left(2, first), left(3, second), left(11, third))
	}
	cut(nil, "abcdef", "", "n")
	cut([]int{}, "abcdef", "", "n")
	cut([]int{0}, "abcdef", "", "n")
	cut([]int{1}, "abcde", "h", "ne")
	cut([]int{2}, "abcd", "he", "new")
	cut([]int{3}, "abc", "hel", "new")
	cut([]int{4}, "abc", "hell", "new")
	cut([]int{9}, "abc", "hello", "new")
	cut([]int{-1}, "abcdef", "", "n")
	cut([]int{1, 4}, "abcde", "hell", "ne")
	cut([]int{0, 5}, "abcdef", "hello", "n")
	cut([]int{2, 0, 1}, "abcd", "", "ne")
	cut([]int{3, 1, 0, 9}, "abc", "h", "n")
	cut([]int{1, -1, 2, 4, 4, 4, 4, 4}, "abcde", "", "new")
	cut([]int{-1 << 63, 1<<63 - 1}, "abcdef", "hello", "n")
	cut([]int{1<<63 - 1, -1 << 63}, "abc", "", "new")
}

// The cuts are counted over the nodes that stay, not over all, and not over names.
func TestDiskCrashCountsTheNodesThatStay(t *testing.T) {
	d := impl.Disk{Room: 30, Fuse: 0, Next: 9, Kept: []impl.Link{{Name: "a", Id: 8}, {Name: "m", Id: 1}, {Name: "z", Id: 3}}, Turns: []impl.Turn{remove("m")}}
	d.Nodes = []impl.Node{{Id: 1, Body: []byte("one")}, {Id: 3, Body: []byte("three")}, {Id: 8, Body: []byte("eight")}}
	got := wantCrash(t, d, 1, []int{1, 2})
	if !sameNodes(got.Nodes, []impl.Node{left(3, "t"), left(8, "ei")}) {
		t.Errorf("behind the remove the nodes are %+v", got.Nodes)
	}
	got = wantCrash(t, d, 0, []int{1, 2})
	if !sameNodes(got.Nodes, []impl.Node{left(1, "o"), left(3, "th"), left(8, "e")}) {
		t.Errorf("ahead of the remove the nodes are %+v", got.Nodes)
	}
}

func TestDiskCrashOfNodesThatOneOfThemLinks(t *testing.T) {
	d, _ := impl.DiskNew(50)
	d = doAll(t, d, opCreate("a"), opAppend("a", "12345"), opSync("a"))
	if got := wantCrash(t, d, 0, []int{9}); len(got.Nodes) != 0 || len(got.Kept) != 0 || got.Next != 2 || got.Room != 50 {
		t.Errorf("a node that only a turn links is left: %+v", got)
	}
	wantBody(t, wantCrash(t, d, 1, nil), "a", "12345")
	d = doAll(t, d, opSyncDir(), opRemove("a"))
	wantBody(t, wantCrash(t, d, 0, nil), "a", "12345")
	if got := wantCrash(t, d, 1, []int{9}); len(got.Nodes) != 0 || len(got.Kept) != 0 {
		t.Errorf("a node that only Kept links is left: %+v", got)
	}
	// What was created and removed again comes back between the two.
	d, _ = impl.DiskNew(50)
	d = doAll(t, d, opCreate("a"), opAppend("a", "xyz"), opRemove("a"), opCreate("a"))
	for turns, want := range [][]int{{}, {1}, {}, {2}} {
		got := wantCrash(t, d, turns, []int{2})
		if len(got.Nodes) != len(want) || len(want) > 0 && got.Nodes[0].Id != want[0] {
			t.Errorf("at %d the nodes are %+v", turns, got.Nodes)
		}
	}
}

func TestDiskCrashOfARenameOverAName(t *testing.T) {
	d, _ := impl.DiskNew(50)
	d = doAll(t, d, opCreate("hist"), opAppend("hist", "old"), opSync("hist"), opSyncDir(), opCreate("temp"), opAppend("temp", "newer"), opSync("temp"), opRename("temp", "hist"))
	for turns, want := range []string{"old", "old", "newer"} {
		for _, cuts := range [][]int{nil, {0}, {2}, {99}, {-1, 1}} {
			wantBody(t, wantCrash(t, d, turns, cuts), "hist", want)
		}
	}
}

func TestDiskCrashStaysWithItsNumbers(t *testing.T) {
	for _, fuse := range []int{-1, 0, 1, impl.MaxFuse} {
		d := someDisk()
		d.Fuse, d.Next = fuse, impl.MaxId
		got := wantCrash(t, d, 2, []int{1})
		if got.Fuse != -1 || got.Next != impl.MaxId || got.Room != 20 {
			t.Errorf("Fuse, Next and Room are %d, %d, %d", got.Fuse, got.Next, got.Room)
		}
	}
	empty := impl.Disk{Room: 7, Fuse: 3, Next: 1}
	for _, cuts := range [][]int{nil, {}, {5}, {1, 2, 3}} {
		for _, turns := range []int{-1, 0, 1} {
			if got := wantCrash(t, empty, turns, cuts); !sameDisk(got, impl.Disk{Room: 7, Fuse: -1, Next: 1}) {
				t.Errorf("of an empty disk %+v is left", got)
			}
		}
	}
}

// A full disk, in length and in number, is torn as any other.
func TestDiskCrashAtTheLimits(t *testing.T) {
	full := impl.Disk{Room: impl.MaxDisk, Fuse: 0, Next: impl.MaxId, Turns: manyTurns(impl.MaxTurns)}
	for i := range impl.MaxNodes {
		full.Nodes = append(full.Nodes, impl.Node{Id: i + 1, Body: someBytes(impl.MaxDisk/8, uint32(i)), Safe: someBytes(i, uint32(i))})
		full.Kept = append(full.Kept, impl.Link{Name: "a" + strings.Repeat("z", i), Id: i + 1})
	}
	if !impl.DiskOk(full) {
		t.Fatal("the test itself is wrong")
	}
	for _, turns := range []int{0, 1, impl.MaxTurns - 1, impl.MaxTurns, impl.MaxTurns + 1} {
		wantCrash(t, full, turns, []int{1, 7500, 7499, 12, 0, 3, 9999, -4, 1})
	}
	if got, ok := impl.DiskCalm(full); !ok || impl.DiskUsed(got) != impl.MaxDisk {
		t.Errorf("DiskCalm of a full disk has %d bytes, %v", impl.DiskUsed(got), ok)
	}
}

// wrongDisks aren't right, each by another rule.
func wrongDisks() []impl.Disk {
	var out []impl.Disk
	add := func(change func(d *impl.Disk)) {
		d := someDisk()
		change(&d)
		out = append(out, d)
	}
	add(func(d *impl.Disk) { *d = impl.Disk{} })
	add(func(d *impl.Disk) { d.Room = 15 })
	add(func(d *impl.Disk) { d.Room = impl.MaxDisk + 1 })
	add(func(d *impl.Disk) { d.Room = -1 })
	add(func(d *impl.Disk) { d.Fuse = -2 })
	add(func(d *impl.Disk) { d.Fuse = impl.MaxFuse + 1 })
	add(func(d *impl.Disk) { d.Next = 11 })
	add(func(d *impl.Disk) { d.Next = impl.MaxId + 1 })
	add(func(d *impl.Disk) { d.Nodes = d.Nodes[:3] })
	add(func(d *impl.Disk) { d.Nodes[0].Id = 4 })
	add(func(d *impl.Disk) { d.Kept[0].Name = "ba" })
	add(func(d *impl.Disk) { d.Kept[0].Name = "" })
	add(func(d *impl.Disk) { d.Kept[1].Id = 7 })
	add(func(d *impl.Disk) { d.Turns[3].Name = "none" })
	add(func(d *impl.Disk) { d.Turns[1].Kind = 2 })
	add(func(d *impl.Disk) { d.Turns[2].Id = 2 })
	add(func(d *impl.Disk) {
		for len(d.Turns) <= impl.MaxTurns {
			d.Turns = append(d.Turns, rename("hist", "h"), rename("h", "hist"))
		}
	})
	return out
}

func TestCrashesOfDisksThatAreNotRight(t *testing.T) {
	for i, d := range wrongDisks() {
		if modelRight(d) {
			t.Fatalf("the test itself is wrong at %d", i)
		}
		for _, turns := range []int{-1, 0, 2, 4, 5} {
			for _, cuts := range [][]int{nil, {1}, {1, 2, 3, 4, 5}} {
				wantCrash(t, d, turns, cuts)
			}
		}
		if got, ok := impl.DiskCalm(d); ok || !sameDisk(got, impl.Disk{}) {
			t.Errorf("DiskCalm of %+v is %+v, %v; want nothing and false", d, got, ok)
		}
	}
}

func wantCalm(t *testing.T, d impl.Disk) impl.Disk {
	t.Helper()
	want, wantOk := modelCalm(d)
	got, ok := impl.DiskCalm(d)
	if ok != wantOk || !sameDisk(got, want) {
		t.Fatalf("DiskCalm of %+v\nis %+v, %v\nwant %+v, %v", d, got, ok, want, wantOk)
	}
	return got
}

func TestDiskCalm(t *testing.T) {
	for _, fuse := range []int{-1, 0, 1, 5, impl.MaxFuse} {
		d := someDisk()
		d.Fuse = fuse
		want := impl.Disk{Room: 20, Fuse: fuse, Next: 12, Nodes: []impl.Node{left(2, "abc"), left(11, "new")}, Kept: []impl.Link{{Name: "a", Id: 2}, {Name: "hist", Id: 11}}}
		if got := wantCalm(t, d); !sameDisk(got, want) {
			t.Errorf("DiskCalm is %+v; want %+v", got, want)
		}
		if got := wantCalm(t, want); !sameDisk(got, want) {
			t.Errorf("DiskCalm of a calm disk is %+v; want %+v", got, want)
		}
	}
	empty := impl.Disk{Room: 4, Fuse: -1, Next: 1}
	if got := wantCalm(t, empty); !sameDisk(got, empty) {
		t.Errorf("DiskCalm of an empty disk is %+v", got)
	}
	gone := diskWith([]impl.Link{{Name: "a", Id: 1}}, create("b", 2), remove("a"), remove("b"))
	if got := wantCalm(t, gone); !sameDisk(got, impl.Disk{Fuse: -1, Next: impl.MaxId}) {
		t.Errorf("DiskCalm of a disk without names is %+v", got)
	}
}

// crashed are the answers of chapter 5 that are disks, for an argument from which all of them are made.
func crashed(d impl.Disk, cuts []int, ops []impl.Op) []impl.Disk {
	var out []impl.Disk
	for turns := range len(d.Turns) + 1 {
		e, _ := impl.DiskCrash(d, turns, cuts)
		f, _ := impl.DiskCrash(d, turns, nil)
		out = append(out, e, f)
	}
	calm, _ := impl.DiskCalm(d)
	room, _ := impl.DiskRoom(d, 30)
	fuse, _ := impl.DiskFuse(d, 7)
	none, _, _ := impl.DiskRun(d, nil)
	run, _, _ := impl.DiskRun(d, ops)
	refused, _, _ := impl.DiskRun(d, append(slices.Clone(ops), opSync("none")))
	part, _, _ := impl.DiskRun(d, append(slices.Clone(ops), opAppend("a", strings.Repeat("y", 30))))
	return append(out, calm, room, fuse, none, run, refused, part)
}

func sameDisks(a []impl.Disk, b []impl.Disk) bool {
	return slices.EqualFunc(a, b, sameDisk)
}

func cloneDisks(l []impl.Disk) []impl.Disk {
	var out []impl.Disk
	for _, d := range l {
		out = append(out, cloneDisk(d))
	}
	return out
}

func TestCrashesLeaveTheirArguments(t *testing.T) {
	d, untouched := roomyDisk(someDisk())
	cutsWhole := []int{1, 2, 3, 77, 78}
	cuts := cutsWhole[:3]
	data, whole := roomy([]byte("ab"))
	dataBefore := bytes.Clone(whole)
	opsWhole := []impl.Op{{Kind: impl.OpAppend, Name: strings.Clone("hist"), Data: data}, {Kind: impl.OpRename, Name: strings.Clone("hist"), To: strings.Clone("new")}, {Kind: impl.OpCreate, Name: strings.Clone("made")}, opSyncDir(), opSyncDir()}
	ops := opsWhole[:3]
	same := func() bool {
		return untouched() && slices.Equal(cutsWhole, []int{1, 2, 3, 77, 78}) && bytes.Equal(whole, dataBefore) && opsWhole[0].Name == "hist" && opsWhole[1].To == "new" && opsWhole[2].Name == "made" && opsWhole[3].Kind == impl.OpSyncDir && opsWhole[4].Kind == impl.OpSyncDir
	}
	first := crashed(d, cuts, ops)
	want := cloneDisks(first)
	if !same() {
		t.Fatal("an argument was changed")
	}
	texts := namesOf(d)
	for _, op := range ops {
		texts = append(texts, op.Name, op.To)
	}
	for i, out := range first {
		for _, name := range namesOf(out) {
			if slices.ContainsFunc(texts, func(s string) bool { return textsMeet(s, name) }) {
				t.Errorf("answer %d: the name %q lies in an argument", i, name)
			}
		}
	}
	for _, out := range crashed(d, cuts, ops) {
		spoilDisk(out)
	}
	if !same() || !sameDisks(first, want) {
		t.Error("an answer shares memory with an argument or with another answer")
	}
	spoilDisk(d)
	spoil(data)
	clear(cutsWhole)
	clear(opsWhole)
	if !sameDisks(first, want) {
		t.Error("a change of the arguments changed an answer")
	}
}

// Of one answer each list is overwritten, one at a time; the others must stay.
func TestCrashesAnswerListsThatShareNothing(t *testing.T) {
	for at := range crashed(someDisk(), []int{2}, []impl.Op{opSync("hist"), opAppend("hist", "x")}) {
		out := crashed(someDisk(), []int{2}, []impl.Op{opSync("hist"), opAppend("hist", "x")})[at]
		var lists [][]byte
		for _, n := range out.Nodes {
			lists = append(lists, n.Body, n.Safe)
		}
		for i := range lists {
			var before [][]byte
			for _, b := range lists {
				before = append(before, bytes.Clone(b[:cap(b)]))
			}
			spoil(lists[i])
			for j, b := range lists {
				if i != j && !bytes.Equal(b[:cap(b)], before[j]) {
					t.Errorf("answer %d: two contents share memory", at)
				}
			}
		}
		for _, k := range out.Kept {
			if slices.ContainsFunc(out.Turns, func(turn impl.Turn) bool { return textsMeet(k.Name, turn.Name) || textsMeet(k.Name, turn.To) }) {
				t.Errorf("answer %d: a name of Kept lies in Turns", at)
			}
		}
	}
}
