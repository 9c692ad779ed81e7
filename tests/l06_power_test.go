package tests

import (
	"bytes"
	"slices"
	"strconv"
	"strings"
	"testing"

	"loop.example/g00600/impl"
)

// behindRow is what the operations make of a disk: one that lacks room is done in part, one without power ends the row.
func behindRow(t *testing.T, d impl.Disk, row []impl.Op) impl.Disk {
	t.Helper()
	for _, op := range row {
		next, code := impl.DiskDo(d, op)
		if code != 0 && code != 2 && code != 5 {
			t.Fatalf("%+v has code %d: the test itself is wrong", op, code)
		}
		d = next
		if code == 2 {
			return d
		}
	}
	return d
}

// crashesOf goes through what a loss of power can leave of a disk: behind each number of turns, with the nodes torn at each step and at others.
func crashesOf(t *testing.T, d impl.Disk, visit func(after impl.Disk)) {
	t.Helper()
	steps := 0
	for _, n := range d.Nodes {
		steps = max(steps, impl.TearSteps(n.Safe, n.Body))
	}
	for turns := range len(d.Turns) + 1 {
		for first := range steps + 1 {
			for _, second := range []int{0, first, steps} {
				for _, cuts := range [][]int{{first, second}, {second, first}} {
					after, ok := impl.DiskCrash(d, turns, cuts)
					if !ok {
						t.Fatalf("no crash of %s", brief(d))
					}
					visit(after)
				}
			}
		}
	}
}

// wantPower asks, for power that ends ahead of each operation of a call and behind the last of them, for the code and for the store: Keep, Size, List and Len are those of stays while the power ends the call, and those of done behind it.
func wantPower(t *testing.T, what string, d impl.Disk, row []impl.Op, stays impl.Store, done impl.Store, doneCode int, call func(d impl.Disk) (impl.Store, int)) {
	t.Helper()
	for fuse := -1; fuse <= len(row)+2; fuse++ {
		given, ok := impl.DiskFuse(d, fuse)
		if !ok {
			t.Fatalf("%s: the test itself is wrong", what)
		}
		want, wantCode := cloneStore(done), doneCode
		if fuse >= 0 && fuse < len(row) {
			want, wantCode = cloneStore(stays), 2
		}
		want.Disk = behindRow(t, given, row)
		got, code := call(given)
		if code != wantCode || !sameStore(got, want) {
			t.Errorf("%s with power for %d operations is %s, %d\nwant %s, %d", what, fuse, brief(got), code, brief(want), wantCode)
		}
		if fuse >= 0 && got.Disk.Fuse != max(fuse-len(row), 0) {
			t.Errorf("%s with power for %d operations leaves power for %d", what, fuse, got.Disk.Fuse)
		}
		if !impl.StoreOk(got) {
			t.Errorf("%s with power for %d operations leaves a store that isn't right: %s", what, fuse, brief(got))
		}
	}
}

// wantPowerOfOpen asks for the store behind each operation of Open, and that an Open behind every crash of it finds the same.
func wantPowerOfOpen(t *testing.T, what string, d impl.Disk, list []impl.Entry, row ...impl.Op) {
	t.Helper()
	stays := impl.Store{Keep: 3, Size: 40}
	done := stays
	done.List, done.Len = list, len(framesOf(list))
	open := func(d impl.Disk) (impl.Store, int) { return impl.Open(d, 3, 40) }
	wantPower(t, what, d, row, stays, done, 0, open)
	for fuse := range len(row) + 1 {
		given, _ := impl.DiskFuse(d, fuse)
		cut, _ := open(given)
		crashesOf(t, cut.Disk, func(after impl.Disk) {
			s, code := open(after)
			if body, _ := impl.DiskRead(s.Disk, "hist"); code != 0 || !slices.Equal(s.List, list) || !bytes.Equal(body, framesOf(list)) {
				t.Fatalf("%s: cut short by power for %d operations, and behind a crash, Open is %s, %d", what, fuse, brief(s), code)
			}
		})
	}
}

func TestOpenWithoutPower(t *testing.T) {
	l := entriesFrom(7, "ls", "make -j", "cd /")
	log := string(framesOf(l))
	empty, _ := impl.DiskNew(50)
	wantPowerOfOpen(t, "Open of a new disk", empty, nil, opSyncDir(), opCreate("hist"), opSync("hist"), opSyncDir())
	wantPowerOfOpen(t, "Open of some records", fileDisk("hist", log), l, opSyncDir(), opSync("hist"), opSyncDir())
	wantPowerOfOpen(t, "Open of a torn file", fileDisk("hist", log[:len(log)-3]), l[:2], opSyncDir(), opCut("hist", 29), opSync("hist"), opSyncDir())
	wantPowerOfOpen(t, "Open of noise", fileDisk("hist", "noise"), nil, opSyncDir(), opCut("hist", 0), opSync("hist"), opSyncDir())
	wantPowerOfOpen(t, "Open where TempFile was left", fileDisk("hist", log, "temp", log), l, opSyncDir(), opRemove("temp"), opSync("hist"), opSyncDir())
	wantPowerOfOpen(t, "Open of a torn file where TempFile was left", fileDisk("hist", log[:13], "temp", "x"), l[:1], opSyncDir(), opRemove("temp"), opCut("hist", 12), opSync("hist"), opSyncDir())
	wantPowerOfOpen(t, "Open of TempFile alone", fileDisk("temp", log), nil, opSyncDir(), opRemove("temp"), opCreate("hist"), opSync("hist"), opSyncDir())
}

// wantFoundBehind asks that an Open behind every crash finds one of the lists, and finds each of them at some crash.
func wantFoundBehind(t *testing.T, what string, d impl.Disk, lists ...[]impl.Entry) {
	t.Helper()
	met := make([]int, len(lists))
	crashesOf(t, d, func(after impl.Disk) {
		s, code := impl.Open(after, 2, 20)
		at := slices.IndexFunc(lists, func(l []impl.Entry) bool { return slices.Equal(l, s.List) })
		if code != 0 || at < 0 {
			t.Fatalf("%s: behind a crash that leaves %s Open finds %s, %d", what, brief(after), brief(s.List), code)
		}
		met[at]++
	})
	for i, n := range met {
		if n == 0 {
			t.Errorf("%s: %s is never found", what, brief(lists[i]))
		}
	}
}

func TestAddWithoutPower(t *testing.T) {
	for _, list := range [][]impl.Entry{nil, entriesFrom(7, "ls", "make -j", "cd /")} {
		s := storeOf(100, 2, 20, list)
		e := impl.Entry{Num: impl.NextNum(s), Text: "more"}
		more := append(cloneEntries(list), e)
		done := cloneStore(s)
		done.List, done.Len = more, s.Len+14
		add := func(d impl.Disk) (impl.Store, int) {
			given := cloneStore(s)
			given.Disk = d
			return impl.Add(given, "more")
		}
		row := []impl.Op{opAppend("hist", string(framesOf(more[len(list):]))), opSync("hist")}
		wantPower(t, "Add", s.Disk, row, s, done, 0, add)
		for fuse := range 3 {
			given, _ := impl.DiskFuse(s.Disk, fuse)
			got, _ := add(given)
			lists := [][][]impl.Entry{{list}, {list, more}, {more}}
			wantFoundBehind(t, "Add with power for "+strconv.Itoa(fuse), got.Disk, lists[fuse]...)
		}
	}
}

func TestAddWithoutRoomAndPower(t *testing.T) {
	for _, list := range [][]impl.Entry{nil, entriesFrom(7, "ls", "make -j", "cd /")} {
		for _, spare := range []int{0, 1, 10, 13} {
			s := storeOf(spare, 2, 20, list)
			add := func(d impl.Disk) (impl.Store, int) {
				given := cloneStore(s)
				given.Disk = d
				return impl.Add(given, "more")
			}
			frame := frameOf(4, impl.NextNum(s), "more")
			row := []impl.Op{opAppend("hist", string(frame)), opCut("hist", s.Len), opSync("hist")}
			wantPower(t, "Add without room", s.Disk, row, s, s, 5, add)
			for fuse := range 4 {
				given, _ := impl.DiskFuse(s.Disk, fuse)
				got, _ := add(given)
				wantFoundBehind(t, "Add without room, with power for "+strconv.Itoa(fuse), got.Disk, list)
			}
		}
	}
}

func TestTidyWithoutPower(t *testing.T) {
	s := someStore()
	last := s.List[1:]
	log := string(framesOf(last))
	done := cloneStore(s)
	done.List, done.Len = last, len(log)
	tidy := func(d impl.Disk) (impl.Store, int) {
		given := cloneStore(s)
		given.Disk = d
		return impl.Tidy(given)
	}
	row := []impl.Op{opSyncDir(), opCreate("temp"), opAppend("temp", log), opSync("temp"), opRename("temp", "hist"), opSyncDir()}
	wantPower(t, "Tidy", s.Disk, row, s, done, 0, tidy)
	for fuse := range 7 {
		lists := [][]impl.Entry{s.List}
		if fuse == 5 {
			lists = [][]impl.Entry{s.List, last}
		}
		if fuse == 6 {
			lists = [][]impl.Entry{last}
		}
		given, _ := impl.DiskFuse(s.Disk, fuse)
		got, _ := tidy(given)
		wantFoundBehind(t, "Tidy with power for "+strconv.Itoa(fuse), got.Disk, lists...)
	}
}

func TestTidyWithoutRoomAndPower(t *testing.T) {
	for _, spare := range []int{0, 1, 17, 30} {
		s := storeOf(spare, 2, 20, someStore().List)
		tidy := func(d impl.Disk) (impl.Store, int) {
			given := cloneStore(s)
			given.Disk = d
			return impl.Tidy(given)
		}
		row := []impl.Op{opSyncDir(), opCreate("temp"), opAppend("temp", string(framesOf(s.List[1:]))), opRemove("temp"), opSyncDir()}
		wantPower(t, "Tidy without room", s.Disk, row, s, s, 5, tidy)
		for fuse := range 6 {
			given, _ := impl.DiskFuse(s.Disk, fuse)
			got, _ := tidy(given)
			wantFoundBehind(t, "Tidy without room, with power for "+strconv.Itoa(fuse), got.Disk, s.List)
		}
	}
}

// The create that is refused for want of place takes no power, but without power it is that which is told.
func TestTidyWithoutPlaceAndPower(t *testing.T) {
	s := crowdedStore(7)
	s.Disk.Turns = []impl.Turn{rename("ma", "aa")}
	for fuse, want := range []int{2, 2, 4, 4} {
		given := cloneStore(s)
		given.Disk.Fuse = fuse
		wanted := cloneStore(given)
		if fuse > 0 {
			wanted.Disk = doAll(t, given.Disk, opSyncDir())
		}
		got, code := wantTidy(t, given)
		wantSame(t, "Tidy without place, with power for "+strconv.Itoa(fuse), wanted, got, code, want)
	}
}

// A disk whose file isn't safe as it is seen, whose directory has turns: the same rows, ended anywhere.
func TestPowerOnDisksThatAreNotCalm(t *testing.T) {
	for seed := range 400 {
		by := dice(seed * 15485863)
		s := rolledStore(&by)
		for fuse := -1; fuse <= 7; fuse++ {
			s.Disk.Fuse = fuse
			wantAdd(t, s, strings.Repeat("x", 1+by.roll(30)))
			wantTidy(t, s)
			wantOpen(t, s.Disk, s.Keep, s.Size)
		}
	}
}

// rolledStore is a right store, its list in a file of which any part may be safe, with other files and turns about it.
func rolledStore(by *dice) impl.Store {
	list := rolledEntries(by, 6)
	log := framesOf(list)
	d := impl.Disk{Room: impl.MaxDisk, Fuse: -1, Next: 1}
	for range by.roll(12) {
		if next, code := impl.DiskDo(d, someOp(by, []string{"a", "b", "old", "z"})); code != 1 {
			d = next
		}
	}
	for _, op := range []impl.Op{opSyncDir(), opCreate("hist"), opAppend("hist", string(log))} {
		if by.roll(2) == 0 || op.Kind != impl.OpSyncDir {
			d, _ = impl.DiskDo(d, op)
		}
	}
	if by.roll(2) == 0 {
		d, _ = impl.DiskDo(d, opSync("hist"))
	}
	if by.roll(3) == 0 {
		d, _ = impl.DiskDo(d, opRename("hist", "old"))
		d, _ = impl.DiskDo(d, opRename("old", "hist"))
	}
	if by.roll(3) == 0 {
		at := modelNode(d, impl.DiskDir(d)[modelLinked(impl.DiskDir(d), "hist")].Id)
		d.Nodes[at].Safe = someBytes(by.roll(50), 3)
	}
	d.Room = min(impl.DiskUsed(d)+by.roll(80), impl.MaxDisk)
	return impl.Store{Disk: d, Keep: 1 + by.roll(5), Size: by.roll(120), List: list, Len: len(log)}
}

// Stores of which some part was changed, right or not: each function answers as the model does.
func TestStoresOfAnyKind(t *testing.T) {
	codes := map[string]int{}
	for seed := range 4000 {
		by := dice(seed * 49979687)
		s := rolledStore(&by)
		switch by.roll(12) {
		case 0:
			s.Len += by.roll(3) - 1
		case 1:
			s.Keep = pick(&by, []int{-1, 0, 1, 100, 101})
		case 2:
			s.Size = pick(&by, []int{-1, 0, 60000, 60001})
		case 3:
			s.List = s.List[:len(s.List)-min(len(s.List), by.roll(2))]
		case 4:
			s.Disk = spoiled(s.Disk, &by)
		case 5:
			s.Disk, _ = modelDo(s.Disk, someOp(&by, []string{"hist", "temp"}))
		case 6:
			s.Disk.Next = pick(&by, []int{s.Disk.Next, impl.MaxId})
		case 7:
			s.Disk.Fuse = by.roll(4) - 1
			s.Disk, _ = modelDo(s.Disk, pick(&by, []impl.Op{opCreate("temp"), opRemove("hist"), opSyncDir()}))
			s.Disk.Next = pick(&by, []int{s.Disk.Next, impl.MaxId})
		}
		if by.roll(4) == 0 {
			s.Disk.Fuse = by.roll(5) - 1
		}
		if got, want := impl.StoreOk(s), modelStore(s); got != want {
			t.Fatalf("StoreOk is %v: %s", got, brief(s))
		}
		_, add := wantAdd(t, s, string(someBytes(by.roll(20), uint32(seed))))
		_, tidy := wantTidy(t, s)
		_, open := wantOpen(t, s.Disk, s.Keep, s.Size)
		wantFound(t, "a store of any kind", s.Disk, modelFound(s.Disk))
		codes["Add "+strconv.Itoa(add)]++
		codes["Tidy "+strconv.Itoa(tidy)]++
		codes["Open "+strconv.Itoa(open)]++
	}
	for _, code := range []string{"Add 0", "Add 1", "Add 2", "Add 3", "Add 5", "Tidy 0", "Tidy 1", "Tidy 2", "Tidy 4", "Tidy 5", "Open 0", "Open 1", "Open 2", "Open 4"} {
		if codes[code] < 3 {
			t.Errorf("%s was met %d times alone", code, codes[code])
		}
	}
}
