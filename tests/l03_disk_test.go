package tests

import (
	"bytes"
	"slices"
	"strconv"
	"strings"
	"testing"

	"loop.example/g00600/impl"
)

func create(name string, id int) impl.Turn {
	return impl.Turn{Kind: impl.OpCreate, Name: name, Id: id}
}

func rename(name string, to string) impl.Turn {
	return impl.Turn{Kind: impl.OpRename, Name: name, To: to}
}

func remove(name string) impl.Turn {
	return impl.Turn{Kind: impl.OpRemove, Name: name}
}

// someDisk has every kind of turn, a rename over a name that is safe, a node that nothing names any more, and nodes of which either content is the longer one.
func someDisk() impl.Disk {
	return impl.Disk{
		Room: 20, Fuse: 5, Next: 12,
		Nodes: []impl.Node{
			{Id: 2, Body: []byte("abc"), Safe: []byte("abcdef")},
			{Id: 3, Body: []byte("hello")},
			{Id: 7, Safe: []byte("xy")},
			{Id: 11, Body: []byte("new"), Safe: []byte("n")},
		},
		Kept:  []impl.Link{{Name: "b", Id: 7}, {Name: "ba", Id: 2}, {Name: "hist", Id: 3}},
		Turns: []impl.Turn{create("temp", 11), remove("b"), rename("ba", "a"), rename("temp", "hist")},
	}
}

// bareNodes have nothing in them, and the Ids from 1 to n.
func bareNodes(n int) []impl.Node {
	var out []impl.Node
	for i := range n {
		out = append(out, impl.Node{Id: i + 1})
	}
	return out
}

// diskWith has Room 0, Next MaxId and as many bare nodes as Kept and the creates link.
func diskWith(kept []impl.Link, turns ...impl.Turn) impl.Disk {
	n := len(kept)
	for _, t := range turns {
		if t.Kind == impl.OpCreate {
			n++
		}
	}
	return impl.Disk{Fuse: -1, Next: impl.MaxId, Nodes: bareNodes(n), Kept: kept, Turns: turns}
}

// manyTurns are n turns that fit a directory with the name a alone; an even number of them leaves it as it is.
func manyTurns(n int) []impl.Turn {
	var out []impl.Turn
	for i := range n {
		if i%2 == 0 {
			out = append(out, rename("a", "b"))
		} else {
			out = append(out, rename("b", "a"))
		}
	}
	return out
}

func wantRight(t *testing.T, what string, d impl.Disk, want bool) {
	t.Helper()
	if modelRight(d) != want {
		t.Fatalf("%s: the test itself is wrong", what)
	}
	if impl.DiskOk(d) != want {
		t.Errorf("%s: DiskOk is %v: %+v", what, !want, d)
	}
	if want {
		return
	}
	if dir := impl.DiskDir(d); len(dir) != 0 {
		t.Errorf("%s: DiskDir is %v; want nothing", what, dir)
	}
	for _, name := range []string{"", "a", "b", "hist"} {
		if b, ok := impl.DiskRead(d, name); ok || len(b) != 0 {
			t.Errorf("%s: DiskRead of %q is %v, %v; want nothing and false", what, name, b, ok)
		}
	}
	if out, code := impl.DiskDo(d, impl.Op{Kind: impl.OpSyncDir}); code != 1 || !sameDisk(out, impl.Disk{}) {
		t.Errorf("%s: DiskDo is %+v, %d; want nothing and 1", what, out, code)
	}
}

// wantAfter asks DiskOk of someDisk behind a change of it.
func wantAfter(t *testing.T, what string, want bool, change func(d *impl.Disk)) {
	t.Helper()
	d := someDisk()
	change(&d)
	wantRight(t, what, d, want)
}

func TestConstantsOfTheDisk(t *testing.T) {
	if impl.MaxDisk != 60000 || impl.MaxNodes != 8 || impl.MaxTurns != 40 || impl.MaxId != 1000000 || impl.MaxFuse != 1000 || impl.MaxName != 12 {
		t.Error("the limits of chapter 4 are others")
	}
	kinds := []int{impl.OpCreate, impl.OpAppend, impl.OpSync, impl.OpCut, impl.OpRename, impl.OpRemove, impl.OpSyncDir}
	if !slices.Equal(kinds, []int{1, 2, 3, 4, 5, 6, 7}) {
		t.Errorf("the kinds of chapter 4 are %v", kinds)
	}
}

func TestNameOk(t *testing.T) {
	for _, s := range []string{"a", "z", "m", "hist", "temp", "az", "aaaaaaaaaaaa", "abcdefghijkl", "zzzzzzzzzzzz"} {
		if !impl.NameOk(s) {
			t.Errorf("NameOk(%q) = false", s)
		}
	}
	for _, s := range []string{"", "aaaaaaaaaaaaa", "abcdefghijklm", strings.Repeat("a", 1000), "A", "Z", "aB", "a1", "1", "a.b", "a b", " a", "a ", "a/b", "_", "a\x00", "\x00", "a\n", "é", "aé", "\xff", "a\xe1", "中"} {
		if impl.NameOk(s) {
			t.Errorf("NameOk(%q) = true", s)
		}
	}
}

func TestNameOkAtEveryByteAndLength(t *testing.T) {
	for n := range 20 {
		if s := strings.Repeat("q", n); impl.NameOk(s) != (n >= 1 && n <= 12) {
			t.Errorf("NameOk of %d letters = %v", n, impl.NameOk(s))
		}
	}
	for c := range 256 {
		want := c >= 97 && c <= 122
		for n := range 12 {
			for at := range n + 1 {
				s := strings.Repeat("q", at) + string([]byte{byte(c)}) + strings.Repeat("q", n-at)
				if impl.NameOk(s) != want {
					t.Fatalf("NameOk(%q) = %v", s, !want)
				}
			}
		}
	}
}

func TestDiskOkOfRightDisks(t *testing.T) {
	wantRight(t, "a disk with all in it", someDisk(), true)
	wantRight(t, "the zero disk", impl.Disk{}, false)
	wantRight(t, "an empty disk", impl.Disk{Next: 1}, true)
	empty := impl.Disk{Next: 1, Nodes: []impl.Node{}, Kept: []impl.Link{}, Turns: []impl.Turn{}}
	wantRight(t, "an empty disk with lists that aren't nil", empty, true)
}

func TestDiskOkAtTheEndsOfItsNumbers(t *testing.T) {
	for _, n := range append(extremes(), -2, 5, 59999, impl.MaxDisk, impl.MaxDisk+1) {
		wantRight(t, "Room "+strconv.Itoa(n), impl.Disk{Room: n, Next: 1}, n >= 0 && n <= 60000)
	}
	for _, n := range append(extremes(), -2, 999, impl.MaxFuse, impl.MaxFuse+1) {
		wantRight(t, "Fuse "+strconv.Itoa(n), impl.Disk{Fuse: n, Next: 1}, n >= -1 && n <= 1000)
	}
	for _, n := range append(extremes(), 2, 999999, impl.MaxId, impl.MaxId+1) {
		wantRight(t, "Next "+strconv.Itoa(n), impl.Disk{Next: n}, n >= 1 && n <= 1000000)
	}
}

func TestDiskOkOfIdsOfNodes(t *testing.T) {
	one := func(id int, next int) impl.Disk {
		return impl.Disk{Next: next, Nodes: []impl.Node{{Id: id}}, Kept: []impl.Link{{Name: "a", Id: id}}}
	}
	wantRight(t, "the first Id", one(1, 2), true)
	wantRight(t, "an Id of Next - 1", one(8, 9), true)
	wantRight(t, "an Id of Next", one(9, 9), false)
	wantRight(t, "an Id of Next + 1", one(10, 9), false)
	wantRight(t, "the last Id", one(999999, 1000000), true)
	wantRight(t, "an Id of MaxId", one(1000000, 1000000), false)
	for _, id := range extremes() {
		wantRight(t, "the Id "+strconv.Itoa(id), one(id, 9), id == 1)
	}
	two := func(a int, b int) impl.Disk {
		return impl.Disk{Next: 9, Nodes: []impl.Node{{Id: a}, {Id: b}}, Kept: []impl.Link{{Name: "a", Id: a}, {Name: "b", Id: b}}}
	}
	wantRight(t, "Ids that rise", two(3, 4), true)
	wantRight(t, "Ids that are alike", two(4, 4), false)
	wantRight(t, "Ids that fall", two(4, 3), false)
	fall := two(3, 4)
	fall.Kept[0].Id, fall.Kept[1].Id = 4, 3
	wantRight(t, "names that link Ids that fall", fall, true)
	wantRight(t, "Ids of 0 and more", two(0, 4), false)
	wantRight(t, "Ids below 0 and more", two(-1, 4), false)
}

func TestDiskOkAtMaxNodes(t *testing.T) {
	for n := range 12 {
		var kept []impl.Link
		var turns []impl.Turn
		for i := range n {
			name := string(rune('a' + i))
			kept = append(kept, impl.Link{Name: name, Id: i + 1})
			turns = append(turns, create(name, i+1))
		}
		wantRight(t, strconv.Itoa(n)+" nodes that are kept", diskWith(kept), n <= 8)
		wantRight(t, strconv.Itoa(n)+" nodes that are created", diskWith(nil, turns...), n <= 8)
		if n > 2 {
			mixed := diskWith(kept[2:], create("a", 1), create("b", 2))
			wantRight(t, strconv.Itoa(n)+" nodes in all", mixed, n <= 8)
		}
	}
}

func TestDiskOkOfKeptNames(t *testing.T) {
	two := func(a string, b string) impl.Disk {
		return diskWith([]impl.Link{{Name: a, Id: 1}, {Name: b, Id: 2}})
	}
	wantRight(t, "names that rise", two("a", "b"), true)
	wantRight(t, "a beginning ahead", two("a", "aa"), true)
	wantRight(t, "a beginning behind", two("aa", "a"), false)
	wantRight(t, "a longer name that is less", two("ab", "b"), true)
	wantRight(t, "names that fall", two("b", "ab"), false)
	wantRight(t, "names that are alike", two("b", "b"), false)
	for _, name := range []string{"", "A", "a1", "é", "{", "aaaaaaaaaaaaa", "a "} {
		wantRight(t, "the kept name "+strconv.Quote(name), diskWith([]impl.Link{{Name: name, Id: 1}}), false)
		wantRight(t, "the second kept name "+strconv.Quote(name), two("a", name), false)
	}
	wantRight(t, "a kept name of MaxName bytes", diskWith([]impl.Link{{Name: "abcdefghijkl", Id: 1}}), true)
}

func TestDiskOkOfLinkedIds(t *testing.T) {
	wantAfter(t, "a node that nothing names", false, func(d *impl.Disk) { d.Nodes = slices.Insert(d.Nodes, 2, impl.Node{Id: 5}) })
	wantAfter(t, "an empty node that nothing names", false, func(d *impl.Disk) { d.Next, d.Nodes = 13, append(d.Nodes, impl.Node{Id: 12}) })
	wantAfter(t, "a kept Id without a node", false, func(d *impl.Disk) { d.Nodes = d.Nodes[1:] })
	wantAfter(t, "a created Id without a node", false, func(d *impl.Disk) { d.Nodes = d.Nodes[:3] })
	wantAfter(t, "a kept Id that no node has", false, func(d *impl.Disk) { d.Kept[0].Id = 4 })
	wantAfter(t, "a created Id that no node has", false, func(d *impl.Disk) { d.Turns[0].Id = 10 })
	wantAfter(t, "a kept Id of 0", false, func(d *impl.Disk) { d.Kept[0].Id = 0 })
	wantAfter(t, "a created Id of 0", false, func(d *impl.Disk) { d.Turns[0].Id = 0 })
	wantAfter(t, "two kept Ids that are alike", false, func(d *impl.Disk) { d.Kept[0].Id = 2 })
	wantAfter(t, "one node that two names have", false, func(d *impl.Disk) { d.Kept = append(d.Kept, impl.Link{Name: "i", Id: 3}) })
	wantAfter(t, "a created Id that is kept", false, func(d *impl.Disk) { d.Turns[0].Id = 3 })
	wantAfter(t, "an Id that is kept and created again", false, func(d *impl.Disk) { d.Turns = append(d.Turns, create("n", 7)) })
	wantAfter(t, "an Id that is created twice", false, func(d *impl.Disk) { d.Turns = append(d.Turns, create("n", 11)) })
	wantAfter(t, "kept Ids in another order", true, func(d *impl.Disk) { d.Kept[0].Id, d.Kept[2].Id = 3, 7 })
	wantAfter(t, "a kept Id and a created one changed for each other", true, func(d *impl.Disk) { d.Kept[0].Id, d.Turns[0].Id = 11, 7 })
}

func TestDiskOkOfKindsOfTurns(t *testing.T) {
	kept := []impl.Link{{Name: "a", Id: 1}}
	for _, kind := range append(extremes(), 2, 3, 4, 7, 8, 257, 1<<32+6) {
		if kind != impl.OpCreate {
			wantRight(t, "a turn of kind "+strconv.Itoa(kind), diskWith(kept, impl.Turn{Kind: kind, Name: "a"}), false)
			wantRight(t, "a turn with To of kind "+strconv.Itoa(kind), diskWith(kept, impl.Turn{Kind: kind, Name: "a", To: "b"}), false)
		}
	}
	wantRight(t, "an empty turn", diskWith(kept, impl.Turn{}), false)
	wantRight(t, "a create", diskWith(kept, create("b", 2)), true)
	wantRight(t, "a rename", diskWith(kept, rename("a", "b")), true)
	wantRight(t, "a remove", diskWith(kept, remove("a")), true)
	wantRight(t, "a create with To", diskWith(kept, impl.Turn{Kind: impl.OpCreate, Name: "b", To: "c", Id: 2}), false)
	wantRight(t, "a rename with the Id", diskWith(kept, impl.Turn{Kind: impl.OpRename, Name: "a", To: "b", Id: 1}), false)
	wantRight(t, "a rename with an Id below 0", diskWith(kept, impl.Turn{Kind: impl.OpRename, Name: "a", To: "b", Id: -1}), false)
	wantRight(t, "a remove with the Id", diskWith(kept, impl.Turn{Kind: impl.OpRemove, Name: "a", Id: 1}), false)
	wantRight(t, "a remove with To", diskWith(kept, impl.Turn{Kind: impl.OpRemove, Name: "a", To: "b"}), false)
	for _, name := range []string{"", "A", "a1", "\xff", "bbbbbbbbbbbbb"} {
		wantRight(t, "a create of the name "+strconv.Quote(name), diskWith(kept, create(name, 2)), false)
		wantRight(t, "a rename of the name "+strconv.Quote(name), diskWith(kept, rename(name, "b")), false)
		wantRight(t, "a rename to the name "+strconv.Quote(name), diskWith(kept, rename("a", name)), false)
		wantRight(t, "a remove of the name "+strconv.Quote(name), diskWith(kept, remove(name)), false)
	}
	wantRight(t, "a rename to a name of MaxName bytes", diskWith(kept, rename("a", "bbbbbbbbbbbb")), true)
}

func TestDiskOkOfTurnsThatFit(t *testing.T) {
	kept := []impl.Link{{Name: "a", Id: 1}, {Name: "b", Id: 2}}
	fit := func(what string, want bool, turns ...impl.Turn) {
		t.Helper()
		wantRight(t, what, diskWith(kept, turns...), want)
	}
	fit("a create of a new name", true, create("c", 3))
	fit("a create of a kept name", false, create("a", 3))
	fit("a create of a created name", false, create("c", 3), create("c", 4))
	fit("a create of a removed name", true, remove("a"), create("a", 3))
	fit("a create of a name that was renamed", true, rename("a", "c"), create("a", 3))
	fit("a create of a name that was renamed to", false, rename("a", "c"), create("c", 3))
	fit("a create ahead of the remove", false, create("a", 3), remove("a"))
	fit("a rename of no name", false, rename("c", "d"))
	fit("a rename of a name that comes later", false, rename("c", "d"), create("c", 3))
	fit("a rename over a name", true, rename("a", "b"))
	fit("a rename of what was renamed over", true, rename("a", "b"), rename("b", "a"))
	fit("a rename to itself", false, rename("a", "a"))
	fit("a rename of no name to itself", false, rename("c", "c"))
	fit("a second rename of a name", false, rename("a", "c"), rename("a", "d"))
	fit("a rename of a removed name", false, remove("a"), rename("a", "c"))
	fit("a remove of no name", false, remove("c"))
	fit("two removes", true, remove("b"), remove("a"))
	fit("a remove twice", false, remove("a"), remove("a"))
	fit("a remove of a name that was renamed", false, rename("a", "c"), remove("a"))
	fit("a remove of a name that was renamed over", true, rename("a", "b"), remove("b"))
	fit("two removes of a name that was renamed over", false, rename("a", "b"), remove("b"), remove("b"))
	fit("a last turn that doesn't fit", false, create("c", 3), rename("c", "a"), remove("b"), remove("c"))
}

func TestDiskOkAtMaxTurns(t *testing.T) {
	kept := []impl.Link{{Name: "a", Id: 1}}
	for _, n := range []int{0, 1, 39, 40, 41, 42, 100} {
		wantRight(t, strconv.Itoa(n)+" turns", diskWith(kept, manyTurns(n)...), n <= 40)
	}
}

func TestDiskOkOfRoom(t *testing.T) {
	if got := impl.DiskUsed(someDisk()); got != 16 {
		t.Fatalf("DiskUsed is %d; want 16", got)
	}
	wantAfter(t, "room that is just enough", true, func(d *impl.Disk) { d.Room = 16 })
	wantAfter(t, "room that is one byte too little", false, func(d *impl.Disk) { d.Room = 15 })
	wantAfter(t, "no room", false, func(d *impl.Disk) { d.Room = 0 })
	full := impl.Disk{Room: impl.MaxDisk, Next: 2, Nodes: []impl.Node{{Id: 1, Body: make([]byte, impl.MaxDisk), Safe: make([]byte, impl.MaxDisk)}}, Kept: []impl.Link{{Name: "a", Id: 1}}}
	wantRight(t, "a full disk", full, true)
	full.Nodes[0].Safe = make([]byte, impl.MaxDisk+1)
	wantRight(t, "a disk with one byte too much", full, false)
}

func TestDiskUsed(t *testing.T) {
	b := func(n int) []byte { return make([]byte, n) }
	cases := []struct {
		nodes []impl.Node
		want  int
	}{
		{nil, 0},
		{[]impl.Node{{Id: 1}}, 0},
		{[]impl.Node{{Id: 1, Body: b(3)}}, 3},
		{[]impl.Node{{Id: 1, Safe: b(4)}}, 4},
		{[]impl.Node{{Id: 1, Body: b(3), Safe: b(4)}}, 4},
		{[]impl.Node{{Id: 1, Body: b(5), Safe: b(4)}}, 5},
		{[]impl.Node{{Id: 1, Body: b(5), Safe: b(5)}}, 5},
		{[]impl.Node{{Id: 1, Body: b(5), Safe: b(4)}, {Id: 2, Body: b(1), Safe: b(9)}, {Id: 3}}, 14},
	}
	for _, c := range cases {
		if got := impl.DiskUsed(impl.Disk{Nodes: c.nodes}); got != c.want {
			t.Errorf("DiskUsed of %v is %d; want %d", c.nodes, got, c.want)
		}
	}
	// It is asked of disks that aren't right too, and of all nodes, linked or not.
	wrong := impl.Disk{Room: -1, Fuse: -7, Nodes: []impl.Node{{Id: -1, Body: b(2)}, {Id: -1, Safe: b(70000)}}}
	if got := impl.DiskUsed(wrong); got != 70002 {
		t.Errorf("DiskUsed of a wrong disk is %d; want 70002", got)
	}
}

func TestDiskNew(t *testing.T) {
	for _, room := range append(extremes(), -2, 10, 59999, impl.MaxDisk, impl.MaxDisk+1) {
		want := room >= 0 && room <= 60000
		wantDisk := impl.Disk{}
		if want {
			wantDisk = impl.Disk{Room: room, Fuse: -1, Next: 1}
		}
		d, ok := impl.DiskNew(room)
		if ok != want || !sameDisk(d, wantDisk) {
			t.Errorf("DiskNew(%d) = %+v, %v", room, d, ok)
		}
		if impl.DiskOk(d) != want {
			t.Errorf("DiskNew(%d): DiskOk is %v", room, !want)
		}
	}
}

func wantDir(t *testing.T, d impl.Disk, want ...impl.Link) {
	t.Helper()
	if got := impl.DiskDir(d); !slices.Equal(got, want) {
		t.Errorf("DiskDir of %+v is %v; want %v", d, got, want)
	}
}

func TestDiskDir(t *testing.T) {
	kept := []impl.Link{{Name: "a", Id: 1}, {Name: "b", Id: 2}}
	wantDir(t, impl.Disk{Next: 1})
	wantDir(t, diskWith(kept), kept...)
	wantDir(t, diskWith(kept, create("aa", 3)), impl.Link{Name: "a", Id: 1}, impl.Link{Name: "aa", Id: 3}, impl.Link{Name: "b", Id: 2})
	wantDir(t, diskWith(kept, remove("a")), impl.Link{Name: "b", Id: 2})
	wantDir(t, diskWith(kept, remove("a"), remove("b")))
	wantDir(t, diskWith(kept, rename("a", "c")), impl.Link{Name: "b", Id: 2}, impl.Link{Name: "c", Id: 1})
	wantDir(t, diskWith(kept, rename("a", "b")), impl.Link{Name: "b", Id: 1})
	wantDir(t, diskWith(kept, rename("b", "a")), impl.Link{Name: "a", Id: 2})
	wantDir(t, diskWith(kept, rename("a", "c"), rename("b", "a"), rename("c", "b")), impl.Link{Name: "a", Id: 2}, impl.Link{Name: "b", Id: 1})
	wantDir(t, diskWith(kept, remove("a"), create("a", 3)), impl.Link{Name: "a", Id: 3}, impl.Link{Name: "b", Id: 2})
	wantDir(t, diskWith(kept, manyTurns(0)...), kept...)
	wantDir(t, diskWith(kept[:1], manyTurns(39)...), impl.Link{Name: "b", Id: 1})
	wantDir(t, diskWith(kept[:1], manyTurns(40)...), impl.Link{Name: "a", Id: 1})
	wantDir(t, someDisk(), impl.Link{Name: "a", Id: 2}, impl.Link{Name: "hist", Id: 11})
}

// The order of the links must not hang on how a directory is kept within a call.
func TestDiskDirRisesEveryTime(t *testing.T) {
	var turns []impl.Turn
	want := []impl.Link{}
	for i, name := range []string{"z", "a", "zz", "ab", "aa", "m", "y", "b"} {
		turns = append(turns, create(name, i+1))
		want = modelLink(want, name, i+1)
	}
	for range 200 {
		wantDir(t, diskWith(nil, turns...), want...)
	}
}

func wantBody(t *testing.T, d impl.Disk, name string, want string) {
	t.Helper()
	if got, ok := impl.DiskRead(d, name); !ok || string(got) != want {
		t.Errorf("DiskRead of %q is %q, %v; want %q", name, got, ok, want)
	}
}

func TestDiskRead(t *testing.T) {
	d := someDisk()
	wantBody(t, d, "a", "abc")
	wantBody(t, d, "hist", "new")
	for _, name := range []string{"", "b", "ba", "temp", "c", "A", "hist ", "histt", "aaaaaaaaaaaaa"} {
		if got, ok := impl.DiskRead(d, name); ok || len(got) != 0 {
			t.Errorf("DiskRead of %q is %q, %v; want nothing and false", name, got, ok)
		}
	}
	d.Turns = nil
	d.Nodes = d.Nodes[:3]
	wantBody(t, d, "b", "")
	wantBody(t, d, "ba", "abc")
	wantBody(t, d, "hist", "hello")
}

func TestOpOkOfRightOperations(t *testing.T) {
	data := make([]byte, impl.MaxDisk)
	for _, op := range []impl.Op{
		{Kind: impl.OpCreate, Name: "a"},
		{Kind: impl.OpCreate, Name: "abcdefghijkl", Data: []byte{}},
		{Kind: impl.OpAppend, Name: "a"},
		{Kind: impl.OpAppend, Name: "a", Data: []byte{0}},
		{Kind: impl.OpAppend, Name: "a", Data: data},
		{Kind: impl.OpSync, Name: "a"},
		{Kind: impl.OpCut, Name: "a"},
		{Kind: impl.OpCut, Name: "a", Size: 1},
		{Kind: impl.OpCut, Name: "a", Size: impl.MaxDisk},
		{Kind: impl.OpRename, Name: "a", To: "b"},
		{Kind: impl.OpRename, Name: "a", To: "a"},
		{Kind: impl.OpRename, Name: "a", To: "abcdefghijkl"},
		{Kind: impl.OpRemove, Name: "a"},
		{Kind: impl.OpSyncDir},
	} {
		if !impl.OpOk(op) {
			t.Errorf("OpOk of kind %d, %q, %q, %d, %d bytes is false", op.Kind, op.Name, op.To, op.Size, len(op.Data))
		}
	}
}

// TestOpOkAtEveryMix holds OpOk, at all mixes of some values of each field, against the chapter's words.
func TestOpOkAtEveryMix(t *testing.T) {
	names := []string{"", "a", "abcdefghijkl", "abcdefghijklm", "A", "a1"}
	sizes := append(extremes(), 2, impl.MaxDisk-1, impl.MaxDisk, impl.MaxDisk+1)
	datas := [][]byte{nil, {}, {0}, make([]byte, impl.MaxDisk), make([]byte, impl.MaxDisk+1)}
	kinds := append(extremes(), 2, 3, 4, 5, 6, 7, 8, 9, 1<<32+7)
	right := 0
	for _, kind := range kinds {
		for _, name := range names {
			for _, to := range names {
				for _, size := range sizes {
					for _, data := range datas {
						op := impl.Op{Kind: kind, Name: name, To: to, Size: size, Data: data}
						want := modelOpRight(op)
						if want {
							right++
						}
						if impl.OpOk(op) != want {
							t.Fatalf("OpOk of kind %d, %q, %q, %d, %d bytes is %v", kind, name, to, size, len(data), !want)
						}
					}
				}
			}
		}
	}
	if right < 20 {
		t.Errorf("only %d of the operations are right", right)
	}
}

// spoiled tells d with some of it changed; small numbers and few names make it likely that it is still right.
func spoiled(d impl.Disk, by *dice) impl.Disk {
	names := []string{"a", "b", "ab", "c", "d", "", "B"}
	d = cloneDisk(d)
	switch kind := by.roll(9); {
	case kind == 0:
		d.Room = by.roll(12) - 1
	case kind == 1:
		d.Next = by.roll(12)
	case kind == 2 && len(d.Nodes) > 0:
		d.Nodes[by.roll(len(d.Nodes))].Id = by.roll(10)
	case kind == 3 && len(d.Nodes) > 0:
		d.Nodes[by.roll(len(d.Nodes))].Safe = someBytes(by.roll(9), 5)
	case kind == 4 && len(d.Kept) > 0:
		d.Kept[by.roll(len(d.Kept))] = impl.Link{Name: pick(by, names), Id: by.roll(8)}
	case kind == 5 && len(d.Turns) > 0:
		d.Turns = slices.Delete(d.Turns, 0, 1)
	case kind == 6 && len(d.Turns) > 0:
		turn := &d.Turns[by.roll(len(d.Turns))]
		turn.Name, turn.To = pick(by, names), pick(by, names)
	case kind == 7:
		turn := impl.Turn{Kind: by.roll(8), Name: pick(by, names), To: pick(by, names), Id: by.roll(3)}
		d.Turns = slices.Insert(d.Turns, by.roll(len(d.Turns)+1), turn)
	case kind == 8 && len(d.Turns) > 1:
		i := by.roll(len(d.Turns) - 1)
		d.Turns[i], d.Turns[i+1] = d.Turns[i+1], d.Turns[i]
	}
	return d
}

func TestDiskOkOfSpoiledDisks(t *testing.T) {
	by := dice(11)
	count := map[bool]int{}
	for range 3000 {
		d := impl.Disk{Room: 10, Fuse: -1, Next: 1}
		for range by.roll(12) {
			d, _ = modelDo(d, someOp(&by, manyNames()))
		}
		for range 10 {
			d := spoiled(d, &by)
			want := modelRight(d)
			count[want]++
			if impl.DiskOk(d) != want {
				t.Fatalf("DiskOk is %v: %+v", !want, d)
			}
			dir, _ := modelDir(d)
			if want && !slices.Equal(impl.DiskDir(d), dir) || !want && len(impl.DiskDir(d)) != 0 {
				t.Fatalf("DiskDir is %v: %+v", impl.DiskDir(d), d)
			}
		}
	}
	if count[true] < 1000 || count[false] < 1000 {
		t.Errorf("the disks don't tell enough: %v", count)
	}
}

func TestAnswersOfTheDiskAreNewMemory(t *testing.T) {
	d, left := roomyDisk(someDisk())
	dir := impl.DiskDir(d)
	again := impl.DiskDir(d)
	for _, k := range dir {
		if slices.ContainsFunc(namesOf(d), func(s string) bool { return textsMeet(s, k.Name) }) {
			t.Errorf("the name %q of DiskDir lies in the argument", k.Name)
		}
	}
	clear(dir[:cap(dir)])
	body, _ := impl.DiskRead(d, "hist")
	spoil(body)
	if !left() {
		t.Error("an answer shares memory with the disk")
	}
	if !slices.Equal(again, []impl.Link{{Name: "a", Id: 2}, {Name: "hist", Id: 11}}) {
		t.Error("two answers share memory")
	}
	impl.DiskOk(d)
	impl.DiskUsed(d)
	if !left() {
		t.Error("the disk was changed")
	}
}

// namesOf are all texts in a disk.
func namesOf(d impl.Disk) []string {
	var out []string
	for _, k := range d.Kept {
		out = append(out, k.Name)
	}
	for _, turn := range d.Turns {
		out = append(out, turn.Name, turn.To)
	}
	return out
}

// roomyDisk tells d with spare room behind every list and texts of its own, and a function that says whether all of that memory is as it was.
func roomyDisk(d impl.Disk) (impl.Disk, func() bool) {
	var checks []func() bool
	keep := func(b []byte) []byte {
		arg, whole := roomy(b)
		before := bytes.Clone(whole)
		checks = append(checks, func() bool { return bytes.Equal(whole, before) })
		return arg
	}
	nodes := []impl.Node{}
	for _, n := range d.Nodes {
		nodes = append(nodes, impl.Node{Id: n.Id, Body: keep(n.Body), Safe: keep(n.Safe)})
	}
	nodes = append(nodes, impl.Node{Id: -5}, impl.Node{Id: -6})
	kept := []impl.Link{}
	for _, k := range d.Kept {
		kept = append(kept, impl.Link{Name: strings.Clone(k.Name), Id: k.Id})
	}
	kept = append(kept, impl.Link{Name: "spare", Id: -7}, impl.Link{Id: -8})
	turns := []impl.Turn{}
	for _, turn := range d.Turns {
		turns = append(turns, impl.Turn{Kind: turn.Kind, Name: strings.Clone(turn.Name), To: strings.Clone(turn.To), Id: turn.Id})
	}
	turns = append(turns, impl.Turn{Name: "spare"}, impl.Turn{Id: -9})
	before := cloneDisk(impl.Disk{Nodes: nodes, Kept: kept, Turns: turns})
	checks = append(checks, func() bool { return sameDisk(before, impl.Disk{Nodes: nodes, Kept: kept, Turns: turns}) })
	out := impl.Disk{Room: d.Room, Fuse: d.Fuse, Next: d.Next, Nodes: nodes[:len(d.Nodes)], Kept: kept[:len(d.Kept)], Turns: turns[:len(d.Turns)]}
	return out, func() bool {
		return !slices.ContainsFunc(checks, func(same func() bool) bool { return !same() })
	}
}
