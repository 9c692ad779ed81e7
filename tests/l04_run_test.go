package tests

import (
	"slices"
	"strconv"
	"strings"
	"testing"

	"loop.example/g00600/impl"
)

func wantChanged(t *testing.T, what string, got impl.Disk, ok bool, want impl.Disk) {
	t.Helper()
	wantOk := modelRight(want)
	if !wantOk {
		want = impl.Disk{}
	}
	if ok != wantOk || !sameDisk(got, want) {
		t.Errorf("%s is %+v, %v\nwant %+v, %v", what, got, ok, want, wantOk)
	}
}

func wantRoomOf(t *testing.T, d impl.Disk, room int) {
	t.Helper()
	want := cloneDisk(d)
	want.Room = room
	got, ok := impl.DiskRoom(d, room)
	wantChanged(t, "DiskRoom with "+strconv.Itoa(room), got, ok, want)
}

func wantFuseOf(t *testing.T, d impl.Disk, fuse int) {
	t.Helper()
	want := cloneDisk(d)
	want.Fuse = fuse
	got, ok := impl.DiskFuse(d, fuse)
	wantChanged(t, "DiskFuse with "+strconv.Itoa(fuse), got, ok, want)
}

func TestDiskRoom(t *testing.T) {
	empty := impl.Disk{Room: 9, Fuse: -1, Next: 1}
	for _, room := range append(extremes(), -2, 9, 15, 16, 17, 20, impl.MaxDisk-1, impl.MaxDisk, impl.MaxDisk+1) {
		wantRoomOf(t, someDisk(), room)
		wantRoomOf(t, empty, room)
		if _, ok := impl.DiskRoom(someDisk(), room); ok != (room >= 16 && room <= 60000) {
			t.Errorf("DiskRoom of 16 bytes with %d is %v", room, ok)
		}
		if _, ok := impl.DiskRoom(empty, room); ok != (room >= 0 && room <= 60000) {
			t.Errorf("DiskRoom of an empty disk with %d is %v", room, ok)
		}
	}
}

// What nothing names any more, and what is safe only, is held too.
func TestDiskRoomCountsAllThatIsHeld(t *testing.T) {
	d, _ := impl.DiskNew(30)
	d = doAll(t, d, opCreate("a"), opAppend("a", "12345"), opSync("a"), opSyncDir(), opCut("a", 1), opRemove("a"), opCreate("b"), opAppend("b", "xy"))
	for room := range 12 {
		if _, ok := impl.DiskRoom(d, room); ok != (room >= 7) {
			t.Errorf("DiskRoom with %d is %v", room, ok)
		}
		wantRoomOf(t, d, room)
	}
	small, _ := impl.DiskRoom(d, 7)
	wantDo(t, small, opAppend("b", "z"), small, 5)
	grown, _ := impl.DiskRoom(small, 8)
	wantBody(t, doAll(t, grown, opAppend("b", "z")), "b", "xyz")
}

func TestDiskFuse(t *testing.T) {
	for _, fuse := range append(extremes(), -2, 5, 999, impl.MaxFuse, impl.MaxFuse+1) {
		wantFuseOf(t, someDisk(), fuse)
		wantFuseOf(t, impl.Disk{Room: 9, Fuse: 0, Next: 1}, fuse)
		if _, ok := impl.DiskFuse(someDisk(), fuse); ok != (fuse >= -1 && fuse <= 1000) {
			t.Errorf("DiskFuse with %d is %v", fuse, ok)
		}
	}
}

// A disk that isn't right stays refused, though the new number alone would mend it.
func TestRoomAndFuseOfDisksThatAreNotRight(t *testing.T) {
	for i, d := range wrongDisks() {
		for _, n := range []int{-1, 0, 1, 15, 16, 20, 1000, impl.MaxDisk, impl.MaxDisk + 1} {
			if got, ok := impl.DiskRoom(d, n); ok || !sameDisk(got, impl.Disk{}) {
				t.Errorf("%d: DiskRoom with %d is %+v, %v; want nothing and false", i, n, got, ok)
			}
			if got, ok := impl.DiskFuse(d, n); ok || !sameDisk(got, impl.Disk{}) {
				t.Errorf("%d: DiskFuse with %d is %+v, %v; want nothing and false", i, n, got, ok)
			}
		}
	}
}

func wantRun(t *testing.T, d impl.Disk, l ...impl.Op) (impl.Disk, int, int) {
	t.Helper()
	want, wantDone, wantCode := modelRun(d, l)
	got, done, code := impl.DiskRun(d, l)
	if done != wantDone || code != wantCode || !sameDisk(got, want) {
		t.Fatalf("DiskRun of %+v\nand %+v\nis %+v, %d, %d\nwant %+v, %d, %d", d, l, got, done, code, want, wantDone, wantCode)
	}
	return got, done, code
}

func TestDiskRunOfNothing(t *testing.T) {
	for _, d := range []impl.Disk{someDisk(), {Next: 1}, {Room: 5, Fuse: 0, Next: 1}} {
		for _, l := range [][]impl.Op{nil, {}} {
			got, done, code := impl.DiskRun(d, l)
			if done != 0 || code != 0 || !sameDisk(got, d) {
				t.Errorf("DiskRun of no operations is %+v, %d, %d", got, done, code)
			}
		}
	}
	for _, d := range wrongDisks() {
		for _, l := range [][]impl.Op{nil, {}, {opSyncDir()}, {opCreate("new"), opSyncDir()}, {{}}} {
			got, done, code := impl.DiskRun(d, l)
			if done != 0 || code != 1 || !sameDisk(got, impl.Disk{}) {
				t.Errorf("DiskRun of a wrong disk and %d operations is %+v, %d, %d; want nothing, 0 and 1", len(l), got, done, code)
			}
		}
	}
}

func TestDiskRunOfAllThatAreDone(t *testing.T) {
	d, _ := impl.DiskNew(20)
	l := []impl.Op{opCreate("temp"), opAppend("temp", "one"), opAppend("temp", ""), opSync("temp"), opCut("temp", 2), opRename("temp", "hist"), opSyncDir(), opCreate("a"), opRemove("a")}
	got, done, code := wantRun(t, d, l...)
	if done != len(l) || code != 0 {
		t.Errorf("of %d operations %d are done, with code %d", len(l), done, code)
	}
	want := impl.Disk{Room: 20, Fuse: -1, Next: 3, Nodes: []impl.Node{{Id: 1, Body: []byte("on"), Safe: []byte("one")}, {Id: 2}}, Kept: []impl.Link{{Name: "hist", Id: 1}}, Turns: []impl.Turn{create("a", 2), remove("a")}}
	if !sameDisk(got, want) {
		t.Errorf("DiskRun leaves %+v; want %+v", got, want)
	}
}

// The operations ahead of the one with a code are done, those behind it aren't.
func TestDiskRunEndsAtEachCode(t *testing.T) {
	start := narrowDisk(impl.MaxNodes, impl.MaxTurns-1, 100)
	start.Room, start.Fuse = 4, 3
	first := opAppend("b", "z")
	ends := []struct {
		op   impl.Op
		code int
	}{
		{opCreate(""), 1}, {opCut("b", -1), 1}, {impl.Op{}, 1}, {impl.Op{Kind: impl.OpSyncDir, Name: "b"}, 1},
		{opSync("none"), 3}, {opCreate("b"), 3},
		{opCreate("new"), 4},
		{opAppend("b", "12"), 5},
		{opCut("b", 4), 6}, {opRename("b", "b"), 6},
	}
	for _, end := range ends {
		for ahead := range 3 {
			l := slices.Repeat([]impl.Op{first}, ahead)
			if end.code == 5 && ahead == 0 {
				continue // There is room for both bytes still.
			}
			if end.code == 6 && end.op.Kind == impl.OpCut && ahead == 2 {
				end.op.Size = 5
			}
			l = append(l, end.op, opSyncDir(), first)
			got, done, code := wantRun(t, start, l...)
			if done != ahead || code != end.code {
				t.Errorf("behind %d operations %+v ends with %d, %d; want code %d", ahead, end.op, done, code, end.code)
			}
			if end.code == 1 && !sameDisk(got, impl.Disk{}) {
				t.Errorf("with the code 1 the disk is %+v", got)
			}
			fuse := 3 - ahead
			if end.code == 5 {
				fuse--
			}
			if end.code != 1 && (got.Fuse != fuse || len(got.Turns) != impl.MaxTurns-1) {
				t.Errorf("behind %d operations %+v leaves Fuse %d and %d turns", ahead, end.op, got.Fuse, len(got.Turns))
			}
		}
	}
}

func TestDiskRunEndsWithoutPower(t *testing.T) {
	l := []impl.Op{opCreate("a"), opAppend("a", "x"), opSync("a"), opSyncDir(), opCut("a", 0), opRename("a", "b"), opRemove("b")}
	for fuse := range len(l) + 2 {
		d := impl.Disk{Room: 5, Fuse: fuse, Next: 1}
		got, done, code := wantRun(t, d, l...)
		if done != min(fuse, len(l)) || (code == 2) != (fuse < len(l)) || got.Fuse != max(fuse-len(l), 0) {
			t.Errorf("with power for %d operations %d are done, with code %d, and Fuse is %d", fuse, done, code, got.Fuse)
		}
	}
	// A wrong operation is told ahead of the want of power.
	if _, done, code := wantRun(t, impl.Disk{Room: 5, Fuse: 1, Next: 1}, opCreate("a"), opCreate("A")); done != 1 || code != 1 {
		t.Errorf("a wrong operation without power ends with %d, %d", done, code)
	}
}

func TestDiskRunWithoutRoomDoesAPart(t *testing.T) {
	d, _ := impl.DiskNew(5)
	d, _ = impl.DiskFuse(d, 9)
	got, done, code := wantRun(t, d, opCreate("a"), opAppend("a", "123"), opAppend("a", "4567"), opSync("a"))
	if done != 2 || code != 5 || got.Fuse != 6 || len(got.Nodes[0].Safe) != 0 {
		t.Errorf("without room it is %+v, %d, %d", got, done, code)
	}
	wantBody(t, got, "a", "12345")
}

// TestDiskRunOfRolledRows holds long rows against the model, and meets every code.
func TestDiskRunOfRolledRows(t *testing.T) {
	met := map[int]int{}
	for seed := range 4000 {
		by := dice(seed * 104729)
		d := impl.Disk{Room: by.roll(30), Fuse: by.roll(12) - 1, Next: 1}
		if seed%5 == 0 {
			d = narrowDisk(3, impl.MaxTurns-1, 100)
		}
		names := manyNames()[:2+by.roll(7)]
		// A row ends at its first code: only those that would be done, and now and then another, make it long.
		var l []impl.Op
		now := d
		for range by.roll(40) {
			op := someOp(&by, names)
			next, code := modelDo(now, op)
			if code == 0 {
				now = next
			}
			if code == 0 || by.roll(12) == 0 {
				l = append(l, op)
			}
		}
		_, _, code := wantRun(t, d, l...)
		met[code]++
		wantRunInParts(t, d, l, by.roll(len(l)+1))
	}
	for code := range 7 {
		if met[code] < 5 {
			t.Errorf("code %d was met %d times", code, met[code])
		}
	}
}

// wantRunInParts asks for the same of a row and of its two parts.
func wantRunInParts(t *testing.T, d impl.Disk, l []impl.Op, at int) {
	t.Helper()
	whole, done, code := impl.DiskRun(d, l)
	first, some, firstCode := impl.DiskRun(d, l[:at])
	if firstCode == 0 {
		rest, more, restCode := impl.DiskRun(first, l[at:])
		first, some, firstCode = rest, some+more, restCode
	}
	if done != some || code != firstCode || !sameDisk(whole, first) {
		t.Fatalf("in parts at %d: %d, %d, %+v\nas a whole: %d, %d, %+v", at, some, firstCode, first, done, code, whole)
	}
}

func TestDiskRunKeepsNothing(t *testing.T) {
	l := []impl.Op{opAppend("hist", "er"), opSync("hist"), opRename("a", strings.Repeat("q", impl.MaxName))}
	want, _, _ := impl.DiskRun(someDisk(), l)
	for range 20 {
		impl.DiskRun(want, []impl.Op{opSyncDir()})
		if got, done, code := impl.DiskRun(someDisk(), l); done != 3 || code != 0 || !sameDisk(got, want) {
			t.Fatalf("the same call answers %+v, %d, %d", got, done, code)
		}
	}
}
