package tests

import (
	"slices"
	"strconv"
	"strings"
	"testing"

	"loop.example/g00600/impl"
)

// wantKept asks for what holds beside every code of Add and Tidy but 1: the store is right, and has its Keep and its Size.
func wantKept(t *testing.T, what string, s impl.Store, got impl.Store, code int) {
	t.Helper()
	if code == 1 && !sameStore(got, impl.Store{}) {
		t.Fatalf("%s of %s: beside the code 1 is %s", what, brief(s), brief(got))
	}
	if code != 1 && (!impl.StoreOk(got) || got.Keep != s.Keep || got.Size != s.Size || got.Disk.Room != s.Disk.Room) {
		t.Fatalf("%s of %s is wrong: %s, %d", what, brief(s), brief(got), code)
	}
}

func wantAdd(t *testing.T, s impl.Store, text string) (impl.Store, int) {
	t.Helper()
	want, wantCode := modelAdd(s, text)
	got, code := impl.Add(s, text)
	if code != wantCode || !sameStore(got, want) {
		t.Fatalf("Add of %q to %s\nis %s, %d\nwant %s, %d", text, brief(s), brief(got), code, brief(want), wantCode)
	}
	wantKept(t, "Add", s, got, code)
	return got, code
}

func wantTidy(t *testing.T, s impl.Store) (impl.Store, int) {
	t.Helper()
	want, wantCode := modelTidy(s)
	got, code := impl.Tidy(s)
	if code != wantCode || !sameStore(got, want) {
		t.Fatalf("Tidy of %s\nis %s, %d\nwant %s, %d", brief(s), brief(got), code, brief(want), wantCode)
	}
	wantKept(t, "Tidy", s, got, code)
	return got, code
}

// wantAdded asks for a store on a calm disk whose list is one longer.
func wantAdded(t *testing.T, s impl.Store, text string) impl.Store {
	t.Helper()
	list := append(cloneEntries(s.List), impl.Entry{Num: impl.NextNum(s), Text: text})
	log := string(framesOf(list))
	want := cloneStore(s)
	want.Disk.Nodes[0] = left(1, log)
	want.List, want.Len = list, len(log)
	got, code := wantAdd(t, s, text)
	if code != 0 || !sameStore(got, want) {
		t.Errorf("Add of %q is %s, %d\nwant %s, 0", text, brief(got), code, brief(want))
	}
	return got
}

// fromOne tells the same texts with the Nums from 1 on.
func fromOne(l []impl.Entry) []impl.Entry {
	for i := range l {
		l[i].Num = i + 1
	}
	return l
}

func TestAdd(t *testing.T) {
	s := storeOf(12000, 2, 20, nil)
	for i, text := range someTexts() {
		s = wantAdded(t, s, text)
		if len(s.List) != i+1 || s.List[i].Num != i+1 || s.List[i].Text != text {
			t.Fatalf("behind %d texts the list is %s", i+1, brief(s.List))
		}
		wantFound(t, "added", s.Disk, s.List)
	}
	wantAdded(t, someStore(), "x")
	wantAdded(t, storeOf(11, 1, 0, nil), "x")
	wantAdded(t, storeOf(11, 1, 0, entriesFrom(impl.MaxSeq-1, "last but one")), "x")
	// Neither Keep nor Size stops it.
	long := storeOf(11, 1, 0, entriesFrom(1, slices.Repeat([]string{"xyz"}, 300)...))
	wantAdded(t, long, "x")
	wantAdded(t, storeOf(1010, 1, 0, fromOne(logOf(impl.MaxDisk-1010, 999))), strings.Repeat("x", 1000))
}

func TestAddOfTexts(t *testing.T) {
	for _, n := range []int{0, 1, 2, 999, 1000, 1001, 2000, 70000} {
		s := storeOf(2000, 2, 20, nums(5))
		text := strings.Repeat("\xff", n)
		if n >= 1 && n <= 1000 {
			wantAdded(t, s, text)
			continue
		}
		for _, fuse := range []int{-1, 0, 1} {
			s.Disk.Fuse = fuse
			if got, code := wantAdd(t, s, text); code != 1 || !sameStore(got, impl.Store{}) {
				t.Errorf("Add of %d bytes is %s, %d; want nothing and 1", n, brief(got), code)
			}
		}
	}
}

// wantSame asks for a code beside which the store is the one that was given.
func wantSame(t *testing.T, what string, s impl.Store, got impl.Store, code int, want int) {
	t.Helper()
	if code != want || !sameStore(got, s) {
		t.Errorf("%s is %s, %d\nwant %s, %d", what, brief(got), code, brief(s), want)
	}
}

func TestAddBehindTheLastNum(t *testing.T) {
	for _, fuse := range []int{-1, 0, 1, impl.MaxFuse} {
		for _, spare := range []int{0, 500} {
			s := storeOf(spare, 2, 20, nums(impl.MaxSeq-1, impl.MaxSeq))
			s.Disk.Fuse = fuse
			for _, text := range []string{"x", strings.Repeat("x", 1000)} {
				got, code := wantAdd(t, s, text)
				wantSame(t, "Add behind the last Num", s, got, code, 3)
			}
			for _, text := range []string{"", strings.Repeat("x", 1001)} {
				if got, code := wantAdd(t, s, text); code != 1 || !sameStore(got, impl.Store{}) {
					t.Errorf("a text that isn't right behind the last Num is %s, %d; want nothing and 1", brief(got), code)
				}
			}
		}
	}
	unsafe := storeOf(50, 2, 20, nums(impl.MaxSeq))
	unsafe.Disk.Nodes[0].Safe = nil
	got, code := wantAdd(t, unsafe, "x")
	wantSame(t, "Add behind the last Num on a disk that isn't calm", unsafe, got, code, 3)
}

// wantNoRoom asks that of an Add without room nothing is left, and that what was there is safe.
func wantNoRoom(t *testing.T, s impl.Store, text string) {
	t.Helper()
	want := cloneStore(s)
	want.Disk.Nodes[0].Safe = want.Disk.Nodes[0].Body
	got, code := wantAdd(t, s, text)
	wantSame(t, "Add without room", want, got, code, 5)
	wantFound(t, "Add without room", got.Disk, s.List)
}

func TestAddWithoutRoom(t *testing.T) {
	l := entriesFrom(7, "ls", "make -j", "cd /")
	for _, list := range [][]impl.Entry{nil, l[:1], l} {
		for _, text := range []string{"x", "more", strings.Repeat("x", 1000)} {
			for _, spare := range []int{0, 1, 2, 9, 10, 9 + len(text)} {
				if spare < 10+len(text) {
					wantNoRoom(t, storeOf(spare, 2, 20, list), text)
				}
			}
			wantAdded(t, storeOf(10+len(text), 2, 20, list), text)
			wantAdded(t, storeOf(11+len(text), 2, 20, list), text)
		}
	}
	wantNoRoom(t, storeOf(0, 1, 0, fromOne(logOf(impl.MaxDisk, 1000))), "x")
	// What isn't safe yet becomes safe with the cut.
	s := storeOf(5, 2, 20, l)
	s.Disk.Nodes[0].Safe = []byte("old")
	wantNoRoom(t, s, "more")
	s.Disk.Nodes[0].Safe = append(framesOf(l), "old"...)
	wantNoRoom(t, s, "more")
	// Up to the length of Safe an append takes no room.
	s.Disk.Nodes[0].Safe = append(framesOf(l), "old old old old"...)
	s.Disk.Room = len(s.Disk.Nodes[0].Safe)
	wantAdded(t, s, "more")
	wantNoRoom(t, s, "moment")
}

func TestAddBesideOtherFiles(t *testing.T) {
	d := fileDisk("a", "other", "hist", string(framesOf(nums(1))))
	d.Nodes[0].Safe = nil
	d.Turns = []impl.Turn{rename("a", "b")}
	s := impl.Store{Disk: d, Keep: 1, Size: 0, List: nums(1), Len: 11}
	got, code := wantAdd(t, s, "x")
	if code != 5 || !sameDisk(got.Disk, d) {
		t.Errorf("Add without room beside other files is %s, %d", brief(got), code)
	}
	s.Disk.Room += 11
	want := cloneDisk(s.Disk)
	want.Nodes[1] = left(2, string(framesOf(entriesFrom(1, "a", "x"))))
	if got, code := wantAdd(t, s, "x"); code != 0 || !sameDisk(got.Disk, want) {
		t.Errorf("Add beside other files is %s, %d", brief(got), code)
	}
}

// wantTidied asks for a store with the last Keep entries alone, in a file of its own on a calm disk.
func wantTidied(t *testing.T, s impl.Store) impl.Store {
	t.Helper()
	list := cloneEntries(s.List[len(s.List)-s.Keep:])
	log := string(framesOf(list))
	want := cloneStore(s)
	want.Disk.Next++
	want.Disk.Nodes = []impl.Node{left(s.Disk.Next, log)}
	want.Disk.Kept = []impl.Link{{Name: "hist", Id: s.Disk.Next}}
	want.Disk.Turns = nil
	want.List, want.Len = list, len(log)
	got, code := wantTidy(t, s)
	if code != 0 || !sameStore(got, want) {
		t.Errorf("Tidy is %s, %d\nwant %s, 0", brief(got), code, brief(want))
	}
	wantFound(t, "tidied", got.Disk, list)
	return got
}

func wantUntidied(t *testing.T, what string, s impl.Store) {
	t.Helper()
	got, code := wantTidy(t, s)
	wantSame(t, what, s, got, code, 0)
}

func TestTidy(t *testing.T) {
	l := entriesFrom(7, "ls", "make -j", "cd /")
	for keep := 1; keep <= 4; keep++ {
		s := storeOf(100, keep, 20, l)
		if keep >= 3 {
			wantUntidied(t, "Tidy with Keep "+strconv.Itoa(keep), s)
			continue
		}
		got := wantTidied(t, s)
		if len(got.List) != keep {
			t.Errorf("Tidy with Keep %d leaves %s", keep, brief(got.List))
		}
		wantUntidied(t, "Tidy twice", got)
	}
	wantUntidied(t, "Tidy of an empty store", storeOf(0, 1, 0, nil))
	wantTidied(t, storeOf(11, 1, 0, nums(1, 2)))
	wantTidied(t, storeOf(11, 1, 0, nums(impl.MaxSeq-1, impl.MaxSeq)))
	wantTidied(t, storeOf(3000, 3, 1000, entriesFrom(3, someTexts()...)))
}

func TestTidyFromALengthOn(t *testing.T) {
	s := someStore()
	for _, size := range []int{0, 1, s.Len - 1} {
		s.Size = size
		wantTidied(t, s)
	}
	for _, size := range []int{s.Len, s.Len + 1, impl.MaxDisk} {
		s.Size = size
		wantUntidied(t, "Tidy with Size "+strconv.Itoa(size), s)
	}
	full := storeOf(0, 1, impl.MaxDisk, logOf(impl.MaxDisk, 1000))
	wantUntidied(t, "Tidy of a full disk with the greatest Size", full)
}

func TestTidyFromANumberOn(t *testing.T) {
	for _, keep := range []int{1, 2, 99, impl.MaxKeep} {
		for _, more := range []int{-1, 0, 1, 2, 50} {
			s := storeOf(3000, keep, 0, entriesFrom(5, slices.Repeat([]string{"text"}, keep+more)...))
			if more > 0 {
				wantTidied(t, s)
			} else {
				wantUntidied(t, "Tidy of "+strconv.Itoa(keep+more)+" entries with Keep "+strconv.Itoa(keep), s)
			}
		}
	}
	// Neither Len nor the number alone is enough.
	s := storeOf(3000, 2, 50, entriesFrom(5, "a", "b", "c"))
	wantUntidied(t, "Tidy of many short entries", s)
	wantUntidied(t, "Tidy of few long entries", storeOf(3000, 2, 50, entriesFrom(5, strings.Repeat("x", 99), strings.Repeat("x", 99))))
}

// Where there is nothing to tidy, the disk isn't touched and no power is needed.
func TestTidyOfNothingNeedsNoPower(t *testing.T) {
	s := storeOf(100, 2, 60, entriesFrom(7, "ls", "make -j", "cd /"))
	s.Disk.Nodes[0].Safe = []byte("old")
	s.Disk.Turns = []impl.Turn{rename("hist", "x"), rename("x", "hist")}
	for _, fuse := range []int{-1, 0, 1, 9} {
		s.Disk.Fuse = fuse
		wantUntidied(t, "Tidy of a short file", s)
	}
	dark := impl.Store{Disk: impl.Disk{Next: 1}, Keep: 1, Size: 0, Len: 1 << 40, List: nums(4)}
	wantUntidied(t, "Tidy without power and file, of few entries", dark)
	dark.List, dark.Len = nums(4, 5), -7
	wantUntidied(t, "Tidy without power and file, of a short Len", dark)
	dark.Len = 1
	got, code := wantTidy(t, dark)
	wantSame(t, "Tidy without power and file", dark, got, code, 2)
	got, code = wantAdd(t, dark, "x")
	wantSame(t, "Add without power and file", dark, got, code, 2)
	dark.List = logOf(2*impl.MaxBytes, 1000)
	dark.Keep = 100
	got, code = wantTidy(t, dark)
	wantSame(t, "Tidy without power of a list that no log holds", dark, got, code, 2)
}

// wantTidyWithoutRoom asks that of a Tidy without room nothing is left but an Id that was taken.
func wantTidyWithoutRoom(t *testing.T, s impl.Store) {
	t.Helper()
	want := cloneStore(s)
	want.Disk = doAll(t, s.Disk, opSyncDir())
	want.Disk.Next++
	got, code := wantTidy(t, s)
	wantSame(t, "Tidy without room", want, got, code, 5)
	wantFound(t, "Tidy without room", got.Disk, s.List)
}

func TestTidyWithoutRoom(t *testing.T) {
	l := entriesFrom(7, "ls", "make -j", "cd /")
	for keep := 1; keep <= 2; keep++ {
		need := len(framesOf(l[3-keep:]))
		for spare := range need {
			wantTidyWithoutRoom(t, storeOf(spare, keep, 20, l))
		}
		wantTidied(t, storeOf(need, keep, 20, l))
		wantTidied(t, storeOf(need+1, keep, 20, l))
	}
	wantTidyWithoutRoom(t, storeOf(0, 1, 0, logOf(impl.MaxDisk, 1000)))
	// A node that nothing names any more gives its room back with the first sync.
	s := storeOf(0, 1, 20, l)
	need := len(framesOf(l[2:]))
	s.Disk.Room += need - 1
	s.Disk.Next = 3
	s.Disk.Nodes = append(s.Disk.Nodes, impl.Node{Id: 2, Body: make([]byte, need-1)})
	s.Disk.Kept = append(s.Disk.Kept, impl.Link{Name: "old", Id: 2})
	s.Disk.Turns = []impl.Turn{remove("old")}
	wantTidyWithoutRoom(t, s)
	s.Disk.Room++
	wantTidied(t, s)
	// What is safe of the file isn't touched.
	s = storeOf(need-1, 1, 20, l)
	s.Disk.Nodes[0].Safe = []byte("old")
	wantTidyWithoutRoom(t, s)
}

// wantNoTemp asks for code 4 of Tidy: the directory was made safe, all else is as it was.
func wantNoTemp(t *testing.T, what string, s impl.Store) {
	t.Helper()
	want := cloneStore(s)
	want.Disk = doAll(t, s.Disk, opSyncDir())
	got, code := wantTidy(t, s)
	wantSame(t, what, want, got, code, 4)
}

// crowdedStore has n files beside that of someStore.
func crowdedStore(n int) impl.Store {
	s := someStore()
	for i := range n {
		name := "m" + string(rune('a'+i))
		s.Disk.Nodes = append(s.Disk.Nodes, left(i+2, "y"))
		s.Disk.Kept = append(s.Disk.Kept, impl.Link{Name: name, Id: i + 2})
	}
	s.Disk.Next = n + 2
	return s
}

func TestTidyWithoutPlaceForTheFile(t *testing.T) {
	wantNoTemp(t, "MaxNodes nodes", crowdedStore(7))
	unsafe := crowdedStore(7)
	unsafe.Disk.Nodes[0].Safe = nil
	unsafe.Disk.Turns = []impl.Turn{rename("ma", "aa")}
	wantNoTemp(t, "MaxNodes nodes, a turn", unsafe)
	last := someStore()
	last.Disk.Next = impl.MaxId
	wantNoTemp(t, "no Id left", last)
	last.Disk.Fuse = 4
	wantNoTemp(t, "no Id left, power for what is done", last)
	last.Disk.Next--
	last.Disk.Fuse = -1
	wantTidied(t, last)
	if got, code := wantTidy(t, crowdedStore(6)); code != 0 || len(got.Disk.Nodes) != 7 {
		t.Errorf("Tidy of MaxNodes - 1 nodes is %s, %d", brief(got), code)
	}
	gone := crowdedStore(7)
	gone.Disk.Turns = []impl.Turn{remove("mc")}
	if got, code := wantTidy(t, gone); code != 0 || len(got.Disk.Nodes) != 7 {
		t.Errorf("Tidy where a node is named no more is %s, %d", brief(got), code)
	}
	turned := someStore()
	for range impl.MaxTurns / 2 {
		turned.Disk.Turns = append(turned.Disk.Turns, rename("hist", "x"), rename("x", "hist"))
	}
	wantTidied(t, turned)
	// Where there is nothing to tidy, no place is needed.
	few := crowdedStore(7)
	few.Keep = 3
	wantUntidied(t, "MaxNodes nodes and nothing to tidy", few)
	// An Add needs no place.
	if _, code := wantAdd(t, crowdedStore(7), "x"); code != 0 {
		t.Errorf("Add with MaxNodes nodes has code %d", code)
	}
}

// Want of place is told ahead of want of room, as the create comes first.
func TestTidyWithoutPlaceAndRoom(t *testing.T) {
	s := crowdedStore(7)
	s.Disk.Room = impl.DiskUsed(s.Disk)
	wantNoTemp(t, "no place and no room", s)
}

// A store goes on being used: what it tells is what it was given, whatever is tidied between.
func TestAddAndTidyInTurn(t *testing.T) {
	for keep := 1; keep <= 3; keep++ {
		for _, size := range []int{0, 30, 100} {
			s, _ := impl.Open(storeOf(300, 1, 0, nil).Disk, keep, size)
			var all []impl.Entry
			for i := range 60 {
				text := string(someBytes(1+i%7, uint32(i)))
				all = append(all, impl.Entry{Num: i + 1, Text: text})
				s, _ = wantAdd(t, s, text)
				s, _ = wantTidy(t, s)
				if n := len(s.List); n < min(keep, i+1) || !slices.Equal(s.List, all[i+1-n:]) {
					t.Fatalf("behind %d texts the list is %s", i+1, brief(s.List))
				}
				if len(s.List) > keep && s.Len > size {
					t.Fatalf("behind %d texts %d bytes and %d entries are left", i+1, s.Len, len(s.List))
				}
				wantFound(t, "used", s.Disk, s.List)
			}
		}
	}
}
