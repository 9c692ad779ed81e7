package tests

import (
	"bytes"
	"fmt"
	"slices"
	"strings"
	"testing"

	"loop.example/g00600/impl"
)

func opCreate(name string) impl.Op { return impl.Op{Kind: impl.OpCreate, Name: name} }
func opAppend(name string, data string) impl.Op {
	return impl.Op{Kind: impl.OpAppend, Name: name, Data: []byte(data)}
}
func opSync(name string) impl.Op { return impl.Op{Kind: impl.OpSync, Name: name} }
func opCut(name string, size int) impl.Op {
	return impl.Op{Kind: impl.OpCut, Name: name, Size: size}
}
func opRename(name string, to string) impl.Op {
	return impl.Op{Kind: impl.OpRename, Name: name, To: to}
}
func opRemove(name string) impl.Op { return impl.Op{Kind: impl.OpRemove, Name: name} }
func opSyncDir() impl.Op           { return impl.Op{Kind: impl.OpSyncDir} }

// smallOps are operations of each kind over few names, among them some that are refused.
func smallOps() []impl.Op {
	return []impl.Op{
		opCreate("a"), opCreate("b"), opAppend("a", ""), opAppend("a", "x"), opAppend("b", "yzw"), opSync("a"), opSync("b"), opCut("a", 0), opCut("b", 1),
		opRename("a", "b"), opRename("b", "a"), opRename("a", "a"), opRemove("a"), opRemove("b"), opSyncDir(), {Kind: impl.OpSyncDir, Name: "a"},
	}
}

func manyNames() []string {
	return []string{"a", "b", "ab", "c", "hist", "temp", "x", "y", "z"}
}

func someOp(by *dice, names []string) impl.Op {
	switch name := pick(by, names); by.roll(16) {
	case 0, 1, 2, 3:
		return opCreate(name)
	case 4, 5, 6:
		return opAppend(name, string(someBytes(by.roll(6), uint32(by.roll(99)))))
	case 7, 8:
		return opSync(name)
	case 9, 10:
		return opCut(name, by.roll(5))
	case 11, 12:
		return opRename(name, pick(by, names))
	case 13:
		return opRemove(name)
	case 14:
		return opSyncDir()
	}
	return impl.Op{Kind: by.roll(10) - 1, Name: pick(by, []string{"", "a", "A"}), To: pick(by, []string{"", "b"}), Size: by.roll(3) - 1}
}

// wantDo asks for a disk and a code, and for the promise: a right disk stays right, within its room and its power.
func wantDo(t *testing.T, d impl.Disk, op impl.Op, want impl.Disk, wantCode int) impl.Disk {
	t.Helper()
	got, code := impl.DiskDo(d, op)
	if code != wantCode || !sameDisk(got, want) {
		t.Fatalf("DiskDo of %+v\nand %+v\nis %+v, %d\nwant %+v, %d", d, op, got, code, want, wantCode)
	}
	if wantCode != 1 && (!impl.DiskOk(got) || impl.DiskUsed(got) > got.Room) {
		t.Fatalf("DiskDo of %+v\nand %+v\nis wrong: %+v", d, op, got)
	}
	return got
}

// wantRefused asks for a code with which the disk is the one that was given, or, with 1, nothing.
func wantRefused(t *testing.T, d impl.Disk, op impl.Op, code int) {
	t.Helper()
	want := cloneDisk(d)
	if code == 1 {
		want = impl.Disk{}
	}
	wantDo(t, d, op, want, code)
}

func wantModel(t *testing.T, d impl.Disk, op impl.Op) (impl.Disk, int) {
	t.Helper()
	want, code := modelDo(d, op)
	return wantDo(t, d, op, want, code), code
}

// doAll does operations that must all have code 0.
func doAll(t *testing.T, d impl.Disk, ops ...impl.Op) impl.Disk {
	t.Helper()
	for _, op := range ops {
		next, code := impl.DiskDo(d, op)
		if code != 0 {
			t.Fatalf("DiskDo of %+v and %+v has code %d", d, op, code)
		}
		d = next
	}
	return d
}

func TestDiskDoCreate(t *testing.T) {
	d := impl.Disk{Room: 5, Fuse: -1, Next: 1}
	d = wantDo(t, d, opCreate("b"), impl.Disk{Room: 5, Fuse: -1, Next: 2, Nodes: bareNodes(1), Turns: []impl.Turn{create("b", 1)}}, 0)
	d = wantDo(t, d, opCreate("a"), impl.Disk{Room: 5, Fuse: -1, Next: 3, Nodes: bareNodes(2), Turns: []impl.Turn{create("b", 1), create("a", 2)}}, 0)
	wantRefused(t, d, opCreate("a"), 3)
	d = someDisk()
	want := cloneDisk(d)
	want.Fuse, want.Next = 4, 13
	want.Nodes = append(want.Nodes, impl.Node{Id: 12})
	want.Turns = append(want.Turns, create("b", 12))
	wantDo(t, d, opCreate("b"), want, 0)
	wantRefused(t, d, opCreate("hist"), 3)
}

func TestDiskDoAppend(t *testing.T) {
	d := someDisk()
	want := cloneDisk(d)
	want.Fuse, want.Nodes[3].Body = 4, []byte("newer")
	wantDo(t, d, opAppend("hist", "er"), want, 0)
	want.Nodes[3].Body = []byte("new")
	wantDo(t, d, opAppend("hist", ""), want, 0)
	wantDo(t, d, impl.Op{Kind: impl.OpAppend, Name: "hist"}, want, 0)
	for _, name := range []string{"b", "ba", "temp", "c"} {
		wantRefused(t, d, opAppend(name, "x"), 3)
	}
}

func TestDiskDoSyncAndCut(t *testing.T) {
	d := someDisk()
	want := cloneDisk(d)
	want.Fuse, want.Nodes[0].Safe = 4, []byte("abc")
	wantDo(t, d, opSync("a"), want, 0)
	for size := range 4 {
		want = cloneDisk(d)
		want.Fuse, want.Nodes[3].Body = 4, []byte("new"[:size])
		wantDo(t, d, opCut("hist", size), want, 0)
	}
	wantRefused(t, d, opCut("hist", 4), 6)
	wantRefused(t, d, opCut("hist", impl.MaxDisk), 6)
	// The length of the Body counts, though the Safe is longer.
	wantRefused(t, d, opCut("a", 4), 6)
	wantRefused(t, d, opSync("ba"), 3)
	wantRefused(t, d, opCut("ba", 0), 3)
}

func TestDiskDoOfAnEmptyBody(t *testing.T) {
	d := impl.Disk{Fuse: -1, Next: 2, Nodes: bareNodes(1), Kept: []impl.Link{{Name: "a", Id: 1}}}
	wantDo(t, d, opCut("a", 0), d, 0)
	wantRefused(t, d, opCut("a", 1), 6)
	wantDo(t, d, opSync("a"), d, 0)
	wantDo(t, d, opAppend("a", ""), d, 0)
	wantDo(t, d, opAppend("a", "x"), d, 5)
}

func TestDiskDoRenameAndRemove(t *testing.T) {
	d := someDisk()
	want := cloneDisk(d)
	want.Fuse = 4
	want.Turns = append(want.Turns, rename("a", "c"))
	wantDo(t, d, opRename("a", "c"), want, 0)
	want.Turns[4] = rename("hist", "a")
	wantDo(t, d, opRename("hist", "a"), want, 0)
	want.Turns[4] = remove("a")
	wantDo(t, d, opRemove("a"), want, 0)
	wantRefused(t, d, opRename("a", "a"), 6)
	wantRefused(t, d, opRename("ba", "c"), 3)
	wantRefused(t, d, opRemove("temp"), 3)
}

func TestDiskDoSyncDir(t *testing.T) {
	d := someDisk()
	want := cloneDisk(d)
	want.Fuse, want.Turns = 4, nil
	want.Nodes = []impl.Node{d.Nodes[0], d.Nodes[3]}
	want.Kept = []impl.Link{{Name: "a", Id: 2}, {Name: "hist", Id: 11}}
	calm := wantDo(t, d, opSyncDir(), want, 0)
	want.Fuse = 3
	wantDo(t, calm, opSyncDir(), want, 0)
	empty := impl.Disk{Room: 5, Fuse: -1, Next: 1}
	wantDo(t, empty, opSyncDir(), empty, 0)
	// The contents aren't made safe by it.
	if string(calm.Nodes[1].Safe) != "n" || string(calm.Nodes[1].Body) != "new" {
		t.Errorf("the nodes are %v", calm.Nodes)
	}
}

// What was renamed over, and what was removed, keeps its node and its room until the directory is made safe.
func TestRenamedOverKeepsItsRoom(t *testing.T) {
	d, _ := impl.DiskNew(10)
	d = doAll(t, d, opCreate("hist"), opAppend("hist", "12345"), opSync("hist"), opSyncDir(), opCreate("temp"), opAppend("temp", "abc"), opSync("temp"))
	if impl.DiskUsed(d) != 8 {
		t.Fatalf("DiskUsed is %d; want 8", impl.DiskUsed(d))
	}
	d = doAll(t, d, opRename("temp", "hist"))
	if len(d.Nodes) != 2 || impl.DiskUsed(d) != 8 || len(impl.DiskDir(d)) != 1 {
		t.Errorf("behind the rename there are %d nodes and %d bytes", len(d.Nodes), impl.DiskUsed(d))
	}
	wantBody(t, d, "hist", "abc")
	full, code := impl.DiskDo(d, opAppend("hist", "defgh"))
	if code != 5 {
		t.Errorf("an append behind the rename has code %d; want 5", code)
	}
	wantBody(t, full, "hist", "abcde")
	d = doAll(t, d, opSyncDir())
	if len(d.Nodes) != 1 || d.Nodes[0].Id != 2 || impl.DiskUsed(d) != 3 || !slices.Equal(d.Kept, []impl.Link{{Name: "hist", Id: 2}}) {
		t.Errorf("behind the sync of the directory it is %+v", d)
	}
	d = doAll(t, d, opAppend("hist", "defgh"))
	wantBody(t, d, "hist", "abcdefgh")
	d = doAll(t, d, opRemove("hist"))
	if len(d.Nodes) != 1 || impl.DiskUsed(d) != 8 || len(impl.DiskDir(d)) != 0 {
		t.Errorf("behind the remove it is %+v", d)
	}
	d = doAll(t, d, opSyncDir())
	if len(d.Nodes) != 0 || impl.DiskUsed(d) != 0 || len(d.Kept) != 0 {
		t.Errorf("behind the last sync of the directory it is %+v", d)
	}
}

// A name that is created and removed again keeps its node too, as a crash may bring it back.
func TestCreatedAndRemovedKeepsItsNode(t *testing.T) {
	d, _ := impl.DiskNew(4)
	for i := range impl.MaxNodes {
		d = doAll(t, d, opCreate("a"), opRemove("a"))
		if len(d.Nodes) != i+1 || len(impl.DiskDir(d)) != 0 {
			t.Fatalf("behind %d removes it is %+v", i+1, d)
		}
	}
	wantRefused(t, d, opCreate("a"), 4)
	d = doAll(t, d, opSyncDir(), opCreate("a"))
	if len(d.Nodes) != 1 || d.Nodes[0].Id != impl.MaxNodes+1 || d.Next != impl.MaxNodes+2 {
		t.Errorf("the Ids are used again: %+v", d)
	}
}

// wantRoom appends data bytes to a node that isn't alone on its disk, and asks for how many of them are taken.
func wantRoom(t *testing.T, body int, safe int, others int, room int, data int, wantTaken int) {
	t.Helper()
	d := impl.Disk{Room: room, Fuse: -1, Next: 3, Kept: []impl.Link{{Name: "a", Id: 1}, {Name: "b", Id: 2}}}
	d.Nodes = []impl.Node{{Id: 1, Body: someBytes(body, 1), Safe: someBytes(safe, 2)}, {Id: 2, Body: someBytes(others, 3)}}
	op := impl.Op{Kind: impl.OpAppend, Name: "a", Data: someBytes(data, 4)}
	want := cloneDisk(d)
	want.Nodes[0].Body = append(want.Nodes[0].Body, op.Data[:wantTaken]...)
	code := 0
	if wantTaken < data {
		code = 5
	}
	wantDo(t, d, op, want, code)
}

func TestDiskDoAppendWithinTheRoom(t *testing.T) {
	wantRoom(t, 3, 0, 2, 10, 5, 5)
	wantRoom(t, 3, 0, 2, 10, 6, 5)
	wantRoom(t, 3, 0, 2, 10, 4, 4)
	wantRoom(t, 3, 0, 2, 5, 1, 0)
	wantRoom(t, 3, 0, 2, 5, 0, 0)
	wantRoom(t, 0, 0, 0, 0, 1, 0)
	// Up to the length of Safe an append takes no room.
	wantRoom(t, 1, 6, 4, 10, 5, 5)
	wantRoom(t, 1, 6, 4, 10, 6, 5)
	wantRoom(t, 1, 6, 4, 11, 6, 6)
	wantRoom(t, 1, 6, 4, 11, 9, 6)
	wantRoom(t, 6, 6, 4, 10, 1, 0)
	wantRoom(t, 0, 6, 0, 6, 6, 6)
	wantRoom(t, 0, 0, 0, impl.MaxDisk, impl.MaxDisk, impl.MaxDisk)
	wantRoom(t, 1, 0, 0, impl.MaxDisk, impl.MaxDisk, impl.MaxDisk-1)
	wantRoom(t, 0, 0, 0, impl.MaxDisk-1, impl.MaxDisk, impl.MaxDisk-1)
	wantRoom(t, 0, impl.MaxDisk, 0, impl.MaxDisk, impl.MaxDisk, impl.MaxDisk)
}

func TestDiskDoAppendAtEveryLength(t *testing.T) {
	for body := range 4 {
		for safe := range 4 {
			for others := range 3 {
				for spare := range 3 {
					room := max(body, safe) + others + spare
					for data := range 6 {
						wantRoom(t, body, safe, others, room, data, min(data, room-others-body))
					}
				}
			}
		}
	}
}

func TestDiskDoRefusesWhatIsNotRight(t *testing.T) {
	for _, op := range []impl.Op{
		{}, {Kind: 8, Name: "a"}, {Kind: -1, Name: "a"}, opCreate(""), opCreate("A"), opCreate("aaaaaaaaaaaaa"), opSync(""), opRemove(""), opRename("a", ""), opRename("", "a"), opRename("a", "B"),
		{Kind: impl.OpSyncDir, Name: "a"}, {Kind: impl.OpCreate, Name: "q", To: "r"}, {Kind: impl.OpCreate, Name: "q", Size: 1}, {Kind: impl.OpCreate, Name: "q", Data: []byte{1}},
		opCut("a", -1), opCut("a", impl.MaxDisk+1), {Kind: impl.OpAppend, Name: "a", Data: make([]byte, impl.MaxDisk+1)}, {Kind: impl.OpAppend, Name: "a", Size: 1},
		{Kind: impl.OpSync, Name: "a", Data: []byte{1}}, {Kind: impl.OpRemove, Name: "a", To: "b"}, {Kind: impl.OpSyncDir, Size: 1},
	} {
		wantRefused(t, someDisk(), op, 1)
		noPower := someDisk()
		noPower.Fuse = 0
		wantRefused(t, noPower, op, 1)
	}
	wrong := someDisk()
	wrong.Room = 3
	for _, op := range smallOps() {
		wantRefused(t, wrong, op, 1)
		wantRefused(t, impl.Disk{}, op, 1)
	}
}

// narrowDisk has the name a with two bytes in it, no room, and as many nodes and turns, and such a Next, as the arguments say.
func narrowDisk(nodes int, turns int, next int) impl.Disk {
	d := impl.Disk{Room: 2, Fuse: -1, Next: next, Nodes: bareNodes(nodes), Turns: manyTurns(turns)}
	d.Nodes[0].Body = []byte("xy")
	for i := range nodes {
		name := "a"
		if i > 0 {
			name = "m" + string(rune('a'+i))
		}
		d.Kept = append(d.Kept, impl.Link{Name: name, Id: i + 1})
	}
	return d
}

func TestDiskDoWithoutPlace(t *testing.T) {
	nodes := narrowDisk(impl.MaxNodes, 0, 100)
	last := narrowDisk(1, 0, impl.MaxId)
	turns := narrowDisk(1, impl.MaxTurns, 100)
	for _, d := range []impl.Disk{nodes, last, turns} {
		wantRefused(t, d, opCreate("new"), 4)
		for _, op := range []impl.Op{opAppend("a", ""), opSync("a"), opCut("a", 1), opSyncDir()} {
			if _, code := wantModel(t, d, op); code != 0 {
				t.Errorf("%+v has code %d", op, code)
			}
		}
	}
	for _, op := range []impl.Op{opRename("a", "new"), opRename("a", "b"), opRemove("a")} {
		wantRefused(t, turns, op, 4)
		for _, d := range []impl.Disk{nodes, last} {
			if _, code := wantModel(t, d, op); code != 0 {
				t.Errorf("%+v has code %d", op, code)
			}
		}
	}
	for _, d := range []impl.Disk{narrowDisk(impl.MaxNodes-1, 0, 100), narrowDisk(1, 0, impl.MaxId-1), narrowDisk(1, impl.MaxTurns-1, 100)} {
		if _, code := wantModel(t, d, opCreate("new")); code != 0 {
			t.Errorf("a create with place for one has code %d", code)
		}
	}
	for _, op := range []impl.Op{opRename("b", "new"), opRemove("b")} {
		if _, code := wantModel(t, narrowDisk(1, impl.MaxTurns-1, 100), op); code != 0 {
			t.Errorf("kind %d with place for one turn has code %d", op.Kind, code)
		}
	}
}

// Where more than one code holds the first counts.
func TestDiskDoTellsTheFirstCode(t *testing.T) {
	all := narrowDisk(impl.MaxNodes, impl.MaxTurns, impl.MaxId)
	dark := cloneDisk(all)
	dark.Fuse = 0
	wantRefused(t, dark, opSyncDir(), 2)
	wantRefused(t, dark, opSync("a"), 2)
	for _, op := range []impl.Op{opCreate("a"), opRename("c", "c"), opRemove("c"), opCut("c", 9), opAppend("c", "z"), opSync("c")} {
		wantRefused(t, dark, op, 2)
		wantRefused(t, all, op, 3)
	}
	for _, op := range []impl.Op{opCreate("c"), opRename("a", "a"), opRename("a", "c"), opRemove("a")} {
		wantRefused(t, dark, op, 2)
		wantRefused(t, all, op, 4)
	}
	wantRefused(t, dark, opAppend("a", "z"), 2)
	wantDo(t, all, opAppend("a", "z"), all, 5)
	wantRefused(t, dark, opCut("a", 3), 2)
	wantRefused(t, all, opCut("a", 3), 6)
	wantRefused(t, narrowDisk(1, 0, 5), opRename("a", "a"), 6)
	wrong := cloneDisk(dark)
	wrong.Room = 1
	for _, op := range []impl.Op{opCreate("a"), opCreate("c"), opRename("a", "a"), opCut("a", 3), opAppend("a", "z"), opSyncDir()} {
		wantRefused(t, wrong, op, 1)
	}
}

func TestDiskDoTakesPower(t *testing.T) {
	for _, fuse := range []int{-1, 0, 1, 2, impl.MaxFuse} {
		d := impl.Disk{Room: 1, Fuse: fuse, Next: 2, Nodes: bareNodes(1), Kept: []impl.Link{{Name: "a", Id: 1}}}
		for _, op := range []impl.Op{opCreate("b"), opAppend("a", "x"), opAppend("a", "xy"), opSync("a"), opCut("a", 0), opRename("a", "b"), opRemove("a"), opSyncDir()} {
			got, code := wantModel(t, d, op)
			want := fuse
			if fuse > 0 {
				want = fuse - 1
			}
			if got.Fuse != want || fuse == 0 && code != 2 || fuse != 0 && code == 2 {
				t.Errorf("Fuse %d: kind %d leaves %d, with code %d", fuse, op.Kind, got.Fuse, code)
			}
		}
		for _, op := range []impl.Op{opCreate("a"), opSync("b"), opCut("a", 1), opRename("a", "a")} {
			if got, _ := wantModel(t, d, op); got.Fuse != fuse {
				t.Errorf("Fuse %d: a refused kind %d leaves %d", fuse, op.Kind, got.Fuse)
			}
		}
	}
}

// With a Fuse of n just n operations have code 0 or 5, and then all have code 2.
func TestDiskDoStopsWithoutPower(t *testing.T) {
	for fuse := range 30 {
		by := dice(fuse)
		d := impl.Disk{Room: 8, Fuse: fuse, Next: 1}
		done := 0
		for range 400 {
			next, code := impl.DiskDo(d, someOp(&by, manyNames()))
			if code == 1 {
				continue
			}
			if code == 0 || code == 5 {
				done++
			}
			if (code == 2) != (d.Fuse == 0) {
				t.Fatalf("code %d with Fuse %d", code, d.Fuse)
			}
			d = next
		}
		if done != fuse || d.Fuse != 0 {
			t.Errorf("%d operations were done with a Fuse of %d, which is now %d", done, fuse, d.Fuse)
		}
	}
}

// TestDiskDoOfAllShortRows holds every row of few operations against the model.
func TestDiskDoOfAllShortRows(t *testing.T) {
	var all func(d impl.Disk, more int)
	all = func(d impl.Disk, more int) {
		if more == 0 {
			return
		}
		for _, op := range smallOps() {
			if next, code := wantModel(t, d, op); code == 0 || code == 5 {
				all(next, more-1)
			}
		}
	}
	for _, fuse := range []int{-1, 3} {
		all(impl.Disk{Room: 3, Fuse: fuse, Next: 1}, 5)
		all(impl.Disk{Room: 3, Fuse: fuse, Next: 3, Nodes: []impl.Node{{Id: 1, Body: []byte("s"), Safe: []byte("se")}, {Id: 2, Body: []byte("t")}}, Kept: []impl.Link{{Name: "a", Id: 2}, {Name: "b", Id: 1}}}, 4)
	}
}

// TestDiskDoOfLongRows goes on until nodes, turns and room are used up, and meets every code.
func TestDiskDoOfLongRows(t *testing.T) {
	met := map[string]int{}
	for seed := range 300 {
		by := dice(seed * 7919)
		d := impl.Disk{Room: by.roll(30), Fuse: by.roll(200) - 1, Next: 1}
		if by.roll(5) == 0 {
			d.Next = impl.MaxId - 4
		}
		// By rolling alone a row hardly ever comes to MaxTurns turns.
		if seed%4 == 0 {
			d = narrowDisk(3, impl.MaxTurns-4, 100)
			d.Room = 12
		}
		for range 120 {
			op := someOp(&by, manyNames())
			if op.Kind == impl.OpSyncDir && by.roll(2) == 0 {
				continue
			}
			next, code := wantModel(t, d, op)
			met[fmt.Sprint(code, " of kind ", op.Kind)]++
			if code == 1 {
				continue
			}
			d = next
			for _, name := range []string{"a", "hist", "ab", ""} {
				wantReadAs(t, d, name)
			}
		}
	}
	for _, row := range []string{"0 1 2 3 4 5 6 7", "1 1 2 3 4 5 6 7", "2 1 2 3 4 5 6 7", "3 1 2 3 4 5 6", "4 1 5 6", "5 2", "6 4 5"} {
		words := strings.Fields(row)
		for _, kind := range words[1:] {
			if met[words[0]+" of kind "+kind] == 0 {
				t.Errorf("code %s of kind %s was never met", words[0], kind)
			}
		}
	}
}

// wantReadAs holds DiskRead against the model.
func wantReadAs(t *testing.T, d impl.Disk, name string) {
	t.Helper()
	dir, _ := modelDir(d)
	at := modelLinked(dir, name)
	got, ok := impl.DiskRead(d, name)
	if at == modelAbsent {
		if ok || len(got) != 0 {
			t.Fatalf("DiskRead of %q is %q, %v; want nothing and false", name, got, ok)
		}
		return
	}
	if want := d.Nodes[modelNode(d, dir[at].Id)].Body; !ok || !bytes.Equal(got, want) {
		t.Fatalf("DiskRead of %q is %q, %v; want %q", name, got, ok, want)
	}
}

// memoryOps has an operation of each kind and of each code but 1 for someDisk.
func memoryOps() []impl.Op {
	return []impl.Op{
		opCreate("new"), opAppend("a", "12"), opAppend("hist", "1234567"), opSync("a"), opSync("hist"), opCut("a", 1), opRename("a", "new"), opRename("hist", "a"), opRemove("a"), opSyncDir(),
		opCreate("a"), opCut("a", 9), opRename("a", "a"), opRemove("new"),
	}
}

func TestDiskDoLeavesItsArguments(t *testing.T) {
	for _, op := range memoryOps() {
		d, left := roomyDisk(someDisk())
		data, whole := roomy(op.Data)
		before := bytes.Clone(whole)
		op.Name, op.To, op.Data = strings.Clone(op.Name), strings.Clone(op.To), data
		out, code := impl.DiskDo(d, op)
		want, _ := modelDo(someDisk(), op)
		for _, name := range namesOf(out) {
			if slices.ContainsFunc(append(namesOf(d), op.Name, op.To), func(s string) bool { return textsMeet(s, name) }) {
				t.Errorf("kind %d, code %d: the name %q lies in an argument", op.Kind, code, name)
			}
		}
		if !left() || !bytes.Equal(whole, before) {
			t.Errorf("kind %d, code %d: an argument was changed", op.Kind, code)
		}
		again, _ := impl.DiskDo(d, op)
		spoilDisk(again)
		if !left() || !bytes.Equal(whole, before) || !sameDisk(out, want) {
			t.Errorf("kind %d, code %d: an answer shares memory with an argument or with another answer", op.Kind, code)
		}
		spoilDisk(d)
		spoil(data)
		if !sameDisk(out, want) {
			t.Errorf("kind %d, code %d: a change of the arguments changed the answer", op.Kind, code)
		}
	}
}

// Of one answer each list is overwritten, one at a time; the others must stay.
func TestDiskDoAnswersListsThatShareNothing(t *testing.T) {
	for _, op := range memoryOps() {
		out, code := impl.DiskDo(someDisk(), op)
		var lists [][]byte
		for _, n := range out.Nodes {
			lists = append(lists, n.Body, n.Safe)
		}
		for i := range lists {
			var before [][]byte
			for _, b := range lists {
				before = append(before, bytes.Clone(b[:cap(b)]))
			}
			spoil(lists[i])
			for j, b := range lists {
				if i != j && !bytes.Equal(b[:cap(b)], before[j]) {
					t.Errorf("kind %d, code %d: two contents of one answer share memory", op.Kind, code)
				}
			}
		}
		for _, k := range out.Kept {
			if slices.ContainsFunc(out.Turns, func(turn impl.Turn) bool { return textsMeet(k.Name, turn.Name) || textsMeet(k.Name, turn.To) }) {
				t.Errorf("kind %d, code %d: a name of Kept lies in Turns", op.Kind, code)
			}
		}
	}
}

func spoilDisk(d impl.Disk) {
	for _, n := range d.Nodes {
		spoil(n.Body)
		spoil(n.Safe)
	}
	clear(d.Nodes[:cap(d.Nodes)])
	clear(d.Kept[:cap(d.Kept)])
	clear(d.Turns[:cap(d.Turns)])
}

// A row in parts is the row: nothing is kept from call to call.
func TestDiskDoKeepsNothing(t *testing.T) {
	d := someDisk()
	first, _ := impl.DiskDo(d, opAppend("hist", "one"))
	for range 50 {
		impl.DiskDo(first, opCreate("other"))
		again, code := impl.DiskDo(someDisk(), opAppend("hist", "one"))
		if code != 0 || !sameDisk(first, again) {
			t.Fatalf("the same call answers %+v, %d", again, code)
		}
	}
}
