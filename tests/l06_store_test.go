package tests

import (
	"bytes"
	"slices"
	"strconv"
	"strings"
	"testing"

	"loop.example/g00600/impl"
)

func TestConstantsOfTheStore(t *testing.T) {
	if impl.MaxKeep != 100 || impl.HistFile != "hist" || impl.TempFile != "temp" {
		t.Errorf("MaxKeep, HistFile and TempFile are %d, %q, %q", impl.MaxKeep, impl.HistFile, impl.TempFile)
	}
}

// fileDisk is a calm disk with just enough room for its files, each under its name, the names rising.
func fileDisk(files ...string) impl.Disk {
	d := impl.Disk{Fuse: -1, Next: 1}
	for i := 0; i < len(files); i += 2 {
		d.Nodes = append(d.Nodes, left(d.Next, files[i+1]))
		d.Kept = append(d.Kept, impl.Link{Name: files[i], Id: d.Next})
		d.Room += len(files[i+1])
		d.Next++
	}
	return d
}

// storeOf is a calm store of that list, on a disk with some bytes of spare room.
func storeOf(spare int, keep int, size int, list []impl.Entry) impl.Store {
	log := framesOf(list)
	d := fileDisk("hist", string(log))
	d.Room += spare
	return impl.Store{Disk: d, Keep: keep, Size: size, List: cloneEntries(list), Len: len(log)}
}

// someStore has three entries, 2 to keep, and is long enough to be tidied.
func someStore() impl.Store {
	return storeOf(100, 2, 20, entriesFrom(7, "ls", "make -j", "cd /"))
}

func wantStore(t *testing.T, what string, s impl.Store, want bool) {
	t.Helper()
	if modelStore(s) != want {
		t.Fatalf("%s: the test itself is wrong: %s", what, brief(s))
	}
	if impl.StoreOk(s) != want {
		t.Errorf("%s: StoreOk is %v: %s", what, !want, brief(s))
	}
	if want {
		return
	}
	if out, code := impl.Add(s, "ls"); code != 1 || !sameStore(out, impl.Store{}) {
		t.Errorf("%s: Add is %s, %d; want nothing and 1", what, brief(out), code)
	}
	if out, code := impl.Tidy(s); code != 1 || !sameStore(out, impl.Store{}) {
		t.Errorf("%s: Tidy is %s, %d; want nothing and 1", what, brief(out), code)
	}
}

// wantStoreAfter asks StoreOk of someStore behind a change of it, with power and without.
func wantStoreAfter(t *testing.T, what string, lit bool, dark bool, change func(s *impl.Store)) {
	t.Helper()
	for _, fuse := range []int{-1, 0, 1, impl.MaxFuse} {
		s := someStore()
		s.Disk.Fuse = fuse
		change(&s)
		want := lit
		if fuse == 0 {
			want = dark
		}
		wantStore(t, what+", Fuse "+strconv.Itoa(fuse), s, want)
	}
}

func TestStoreOkOfRightStores(t *testing.T) {
	wantStore(t, "an empty one", storeOf(0, 1, 0, nil), true)
	wantStore(t, "one with an entry", storeOf(0, 1, 0, entriesFrom(1, "a")), true)
	wantStore(t, "one with the last entry", storeOf(0, 1, 0, entriesFrom(impl.MaxSeq, "a")), true)
	wantStore(t, "one with every kind of text", storeOf(5, 100, 60000, entriesFrom(40, someTexts()...)), true)
	wantStore(t, "one with more entries than a tidying leaves", storeOf(0, 1, 0, entriesFrom(1, slices.Repeat([]string{"xyz"}, 300)...)), true)
	full := storeOf(0, 1, 0, logOf(impl.MaxDisk, 1000))
	if full.Disk.Room != impl.MaxDisk {
		t.Fatal("the test itself is wrong")
	}
	wantStore(t, "one that fills the greatest disk", full, true)
	wantStoreAfter(t, "unchanged", true, true, func(s *impl.Store) {})
	wantStore(t, "nothing", impl.Store{}, false)
}

func TestStoreOkOfItsNumbers(t *testing.T) {
	for _, keep := range append(extremes(), 2, 99, impl.MaxKeep, impl.MaxKeep+1, 1<<32+5) {
		want := keep >= 1 && keep <= 100
		wantStoreAfter(t, "Keep "+strconv.Itoa(keep), want, want, func(s *impl.Store) { s.Keep = keep })
	}
	for _, size := range append(extremes(), 2, 59999, impl.MaxDisk, impl.MaxDisk+1) {
		want := size >= 0 && size <= 60000
		wantStoreAfter(t, "Size "+strconv.Itoa(size), want, want, func(s *impl.Store) { s.Size = size })
	}
	for _, more := range []int{-43, -1, 1, 2, 1 << 32, -1 << 63} {
		wantStoreAfter(t, "Len off by "+strconv.Itoa(more), false, true, func(s *impl.Store) { s.Len += more })
	}
}

func TestStoreOkOfItsDisk(t *testing.T) {
	for i, d := range wrongDisks() {
		s := someStore()
		s.Disk = d
		wantStore(t, "wrong disk "+strconv.Itoa(i), s, false)
		s.Disk.Fuse = 0
		if !modelRight(s.Disk) {
			wantStore(t, "wrong disk without power "+strconv.Itoa(i), s, false)
		}
	}
	wantStoreAfter(t, "a disk with too little room", false, false, func(s *impl.Store) { s.Disk.Room = s.Len - 1 })
	wantStoreAfter(t, "a disk with just enough room", true, true, func(s *impl.Store) { s.Disk.Room = s.Len })
	wantStore(t, "a Fuse below -1", impl.Store{Disk: impl.Disk{Fuse: -2, Next: 1}, Keep: 1}, false)
	wantStore(t, "a bare disk without power", impl.Store{Disk: impl.Disk{Next: 1}, Keep: 1, Len: -4}, true)
}

// The list must be right, though the file holds just its records.
func TestStoreOkOfItsList(t *testing.T) {
	for _, l := range [][]impl.Entry{nums(3, 5), nums(3, 3), nums(4, 3), nums(0), nums(impl.MaxSeq + 1), nums(impl.MaxSeq, impl.MaxSeq+1), {{Num: 4}}, {{Num: 4, Text: strings.Repeat("x", 1001)}}} {
		s := storeOf(9, 2, 20, l)
		wantStore(t, "a list that isn't right", s, false)
		s.Disk.Fuse = 0
		wantStore(t, "a list that isn't right, without power", s, false)
	}
	wantStoreAfter(t, "an entry too few", false, true, func(s *impl.Store) { s.List = s.List[:2] })
	wantStoreAfter(t, "without the first entry", false, true, func(s *impl.Store) { s.List = s.List[1:] })
	wantStoreAfter(t, "without any entry", false, true, func(s *impl.Store) { s.List = nil })
	wantStoreAfter(t, "an entry too many", false, true, func(s *impl.Store) { s.List = entriesFrom(7, "ls", "make -j", "cd /", "x") })
	wantStoreAfter(t, "another text", false, true, func(s *impl.Store) { s.List[1].Text = "make -k" })
	wantStoreAfter(t, "other Nums", false, true, func(s *impl.Store) { s.List = entriesFrom(8, "ls", "make -j", "cd /") })
}

// A list of more bytes than LogBytes writes is no file's list, not an empty file's either.
func TestStoreOkOfAListThatNoLogHolds(t *testing.T) {
	s := storeOf(0, 1, 0, nil)
	s.List = logOf(impl.MaxBytes+1, 1000)
	wantStore(t, "a list that no log holds", s, false)
	s.Disk.Fuse = 0
	wantStore(t, "a list that no log holds, without power", s, true)
}

func TestStoreOkOfItsFile(t *testing.T) {
	body := func(s *impl.Store) *[]byte { return &s.Disk.Nodes[0].Body }
	wantStoreAfter(t, "no file", false, true, func(s *impl.Store) { s.Disk.Nodes, s.Disk.Kept = nil, nil })
	wantStoreAfter(t, "no file and no list", false, true, func(s *impl.Store) { s.Disk.Nodes, s.Disk.Kept, s.List, s.Len = nil, nil, nil, 0 })
	wantStoreAfter(t, "a file of another name", false, true, func(s *impl.Store) { s.Disk.Kept[0].Name = "history" })
	wantStoreAfter(t, "a byte too many", false, true, func(s *impl.Store) { *body(s) = append(*body(s), 0) })
	wantStoreAfter(t, "a byte too many that Len counts", false, true, func(s *impl.Store) { *body(s) = append(*body(s), 0); s.Len++ })
	wantStoreAfter(t, "a byte too few", false, true, func(s *impl.Store) { *body(s) = (*body(s))[:s.Len-1] })
	wantStoreAfter(t, "a byte too few that Len counts", false, true, func(s *impl.Store) { s.Len--; *body(s) = (*body(s))[:s.Len] })
	wantStoreAfter(t, "an empty file", false, true, func(s *impl.Store) { *body(s) = nil })
	for at := range someStore().Len {
		wantStoreAfter(t, "byte "+strconv.Itoa(at)+" turned", false, true, func(s *impl.Store) { (*body(s))[at] ^= 1 })
	}
	wantStoreAfter(t, "another Safe", true, true, func(s *impl.Store) { s.Disk.Nodes[0].Safe = []byte("old") })
	wantStoreAfter(t, "records that are safe, not seen", false, true, func(s *impl.Store) { *body(s) = nil; s.Len = 0 })
}

// The directory as it is seen counts, not the one that is safe.
func TestStoreOkOfItsDirectory(t *testing.T) {
	turn := func(turns ...impl.Turn) func(s *impl.Store) {
		return func(s *impl.Store) { s.Disk.Turns = turns }
	}
	temp := func(turns ...impl.Turn) func(s *impl.Store) {
		return func(s *impl.Store) {
			s.Disk.Nodes = append(s.Disk.Nodes, impl.Node{Id: 2})
			s.Disk.Next = 3
			s.Disk.Turns = turns
		}
	}
	wantStoreAfter(t, "TempFile is created", false, true, temp(create("temp", 2)))
	wantStoreAfter(t, "TempFile is created and removed", true, true, temp(create("temp", 2), remove("temp")))
	wantStoreAfter(t, "TempFile is created and renamed", true, true, temp(create("temp", 2), rename("temp", "tempo")))
	wantStoreAfter(t, "another file is created", true, true, temp(create("tempo", 2)))
	wantStoreAfter(t, "an empty TempFile is renamed over it", false, true, temp(create("temp", 2), rename("temp", "hist")))
	wantStoreAfter(t, "HistFile is removed", false, true, turn(remove("hist")))
	wantStoreAfter(t, "HistFile is renamed", false, true, turn(rename("hist", "old")))
	wantStoreAfter(t, "HistFile is renamed and back", true, true, turn(rename("hist", "old"), rename("old", "hist")))
	wantStoreAfter(t, "HistFile is TempFile", false, true, func(s *impl.Store) { s.Disk.Kept[0].Name = "temp" })
	wantStoreAfter(t, "HistFile was TempFile", true, true, func(s *impl.Store) { s.Disk.Kept[0].Name = "temp"; s.Disk.Turns = []impl.Turn{rename("temp", "hist")} })
	kept := func(turns ...impl.Turn) func(s *impl.Store) {
		return func(s *impl.Store) {
			temp(turns...)(s)
			s.Disk.Kept = append(s.Disk.Kept, impl.Link{Name: "temp", Id: 2})
		}
	}
	wantStoreAfter(t, "TempFile is kept", false, true, kept())
	wantStoreAfter(t, "TempFile is kept and removed", true, true, kept(remove("temp")))
}

func TestNextNum(t *testing.T) {
	cases := []struct {
		list []impl.Entry
		want int
	}{
		{nil, 1}, {[]impl.Entry{}, 1}, {nums(1), 2}, {nums(41), 42}, {nums(3, 4, 5), 6},
		{nums(0), 0}, {nums(-1), 0}, {nums(impl.MaxSeq - 1), impl.MaxSeq}, {nums(impl.MaxSeq), impl.MaxSeq + 1}, {nums(impl.MaxSeq + 1), 0},
		{nums(1<<63 - 1), 0}, {nums(-1 << 63), 0},
		// Only the last counts, and its Num alone.
		{nums(0, 9), 10}, {nums(9, 0), 0}, {nums(impl.MaxSeq+1, 4), 5}, {nums(4, impl.MaxSeq+1), 0}, {[]impl.Entry{{Num: 5}}, 6},
	}
	for _, c := range cases {
		s := impl.Store{List: c.list}
		if got := impl.NextNum(s); got != c.want || modelNext(s) != c.want {
			t.Errorf("NextNum of %v is %d; want %d", c.list, got, c.want)
		}
	}
	for _, n := range extremes() {
		if got, want := impl.NextNum(impl.Store{List: nums(1, n)}), modelNext(impl.Store{List: nums(n)}); got != want {
			t.Errorf("NextNum behind %d is %d; want %d", n, got, want)
		}
	}
	if got := impl.NextNum(someStore()); got != 10 {
		t.Errorf("NextNum of a right store is %d; want 10", got)
	}
}

func wantFound(t *testing.T, what string, d impl.Disk, want []impl.Entry) {
	t.Helper()
	if got := impl.Found(d); !slices.Equal(got, want) || !slices.Equal(modelFound(d), want) {
		t.Errorf("%s: Found is %s; want %s", what, brief(got), brief(want))
	}
}

func TestFound(t *testing.T) {
	l := entriesFrom(7, "ls", "make -j", "cd /")
	log := string(framesOf(l))
	empty, _ := impl.DiskNew(50)
	wantFound(t, "a new disk", empty, nil)
	wantFound(t, "an empty file", fileDisk("hist", ""), nil)
	wantFound(t, "some records", fileDisk("hist", log), l)
	wantFound(t, "other files alone", fileDisk("his", log, "history", log, "temp", log), nil)
	wantFound(t, "other files beside", fileDisk("a", "x", "hist", log, "temp", string(framesOf(nums(1)))), l)
	wantFound(t, "noise", fileDisk("hist", string(someBytes(300, 7))), nil)
	wantFound(t, "noise behind", fileDisk("hist", log+"noise"), l)
	wantFound(t, "a leap of the Nums", fileDisk("hist", log+string(framesOf(nums(11)))), l)
	for n := range len(log) {
		whole := 0
		for _, end := range endsOf(l)[1:] {
			if end <= n {
				whole++
			}
		}
		wantFound(t, "torn", fileDisk("hist", log[:n]), l[:whole])
	}
	seen := fileDisk("hist", log)
	seen.Nodes[0].Body = seen.Nodes[0].Body[:12]
	wantFound(t, "seen is less than safe", seen, l[:1])
	seen.Nodes[0] = impl.Node{Id: 1, Body: []byte(log)}
	wantFound(t, "nothing is safe", seen, l)
	seen.Fuse = 0
	wantFound(t, "no power", seen, l)
	seen.Turns = []impl.Turn{rename("hist", "old")}
	wantFound(t, "renamed", seen, nil)
	seen.Kept[0].Name, seen.Turns = "temp", []impl.Turn{rename("temp", "hist")}
	wantFound(t, "renamed to it", seen, l)
	wrong := fileDisk("hist", log)
	wrong.Room--
	wantFound(t, "a disk that isn't right", wrong, nil)
	for _, d := range wrongDisks() {
		wantFound(t, "a disk that isn't right", d, nil)
	}
}

func wantOpen(t *testing.T, d impl.Disk, keep int, size int) (impl.Store, int) {
	t.Helper()
	want, wantCode := modelOpen(d, keep, size)
	got, code := impl.Open(d, keep, size)
	if code != wantCode || !sameStore(got, want) {
		t.Fatalf("Open of %s\nwith %d, %d\nis %s, %d\nwant %s, %d", brief(d), keep, size, brief(got), code, brief(want), wantCode)
	}
	if right := impl.StoreOk(got); right != (code == 0 || code == 2) {
		t.Fatalf("Open of %s\nwith %d, %d\nis %s, %d: StoreOk is %v", brief(d), keep, size, brief(got), code, right)
	}
	return got, code
}

// wantOpened asks for a store with a list, on a calm disk that holds just these files and what the disk told of itself ahead.
func wantOpened(t *testing.T, what string, d impl.Disk, list []impl.Entry, next int, nodes []impl.Node, kept []impl.Link) {
	t.Helper()
	log := framesOf(list)
	want := impl.Store{Disk: impl.Disk{Room: d.Room, Fuse: -1, Next: next, Nodes: nodes, Kept: kept}, Keep: 3, Size: 40, List: list, Len: len(log)}
	got, code := wantOpen(t, d, 3, 40)
	if code != 0 || !sameStore(got, want) {
		t.Errorf("%s: Open is %s, %d\nwant %s, 0", what, brief(got), code, brief(want))
	}
	if body, there := impl.DiskRead(got.Disk, "hist"); !there || !bytes.Equal(body, log) {
		t.Errorf("%s: HistFile holds %x, %v; want %x", what, body, there, log)
	}
	again, code := wantOpen(t, got.Disk, 3, 40)
	if code != 0 || !sameStore(again, got) {
		t.Errorf("%s: opened twice it is %s, %d", what, brief(again), code)
	}
}

func TestOpen(t *testing.T) {
	l := entriesFrom(7, "ls", "make -j", "cd /")
	log := string(framesOf(l))
	hist := []impl.Link{{Name: "hist", Id: 1}}
	whole := []impl.Node{left(1, log)}
	empty, _ := impl.DiskNew(50)
	wantOpened(t, "a new disk", empty, nil, 2, bareNodes(1), hist)
	bare, _ := impl.DiskNew(0)
	wantOpened(t, "a new disk without room", bare, nil, 2, bareNodes(1), hist)
	wantOpened(t, "an empty file", fileDisk("hist", ""), nil, 2, bareNodes(1), hist)
	wantOpened(t, "some records", fileDisk("hist", log), l, 2, whole, hist)
	wantOpened(t, "noise", fileDisk("hist", "noise"), nil, 2, bareNodes(1), hist)
	wantOpened(t, "noise behind", fileDisk("hist", log+"\x00"), l, 2, whole, hist)
	wantOpened(t, "a leap of the Nums", fileDisk("hist", log+string(framesOf(nums(11, 12)))), l, 2, whole, hist)
	wantOpened(t, "TempFile was left", fileDisk("hist", log, "temp", "half"), l, 3, whole, hist)
	wantOpened(t, "TempFile was left with records", fileDisk("hist", log, "temp", string(framesOf(nums(1)))), l, 3, whole, hist)
	wantOpened(t, "TempFile alone", fileDisk("temp", log), nil, 3, []impl.Node{{Id: 2}}, []impl.Link{{Name: "hist", Id: 2}})
	wantOpened(t, "torn, and TempFile was left", fileDisk("hist", log[:len(log)-1], "temp", log), l[:2], 3, []impl.Node{left(1, string(framesOf(l[:2])))}, hist)
	beside := fileDisk("a", "x", "hist", log, "tempo", "y")
	wantOpened(t, "files beside", beside, l, 4, beside.Nodes, beside.Kept)
	for n := range len(log) {
		kept, end := modelScan([]byte(log[:n]))
		wantOpened(t, "torn at "+strconv.Itoa(n), fileDisk("hist", log[:n]), kept, 2, []impl.Node{left(1, log[:end])}, hist)
	}
}

// What is seen counts, and is made safe.
func TestOpenOfWhatIsNotSafe(t *testing.T) {
	l := entriesFrom(7, "ls", "make -j")
	log := string(framesOf(l))
	hist := []impl.Link{{Name: "hist", Id: 1}}
	d := fileDisk("hist", log)
	d.Nodes[0].Safe = nil
	wantOpened(t, "nothing is safe", d, l, 2, []impl.Node{left(1, log)}, hist)
	d.Nodes[0] = impl.Node{Id: 1, Body: []byte(log[:13]), Safe: []byte(log)}
	wantOpened(t, "less is seen than safe", d, l[:1], 2, []impl.Node{left(1, log[:12])}, hist)
	d = fileDisk("old", log)
	d.Turns = []impl.Turn{rename("old", "hist")}
	wantOpened(t, "renamed to it", d, l, 2, []impl.Node{left(1, log)}, hist)
	d = fileDisk("hist", log)
	d.Turns = []impl.Turn{remove("hist")}
	wantOpened(t, "removed", d, nil, 3, []impl.Node{{Id: 2}}, []impl.Link{{Name: "hist", Id: 2}})
	d = fileDisk("hist", "old", "temp", log)
	d.Turns = []impl.Turn{rename("temp", "hist")}
	wantOpened(t, "TempFile was renamed over it", d, l, 3, []impl.Node{left(2, log)}, []impl.Link{{Name: "hist", Id: 2}})
	d = fileDisk("hist", log)
	d.Next, d.Nodes, d.Turns = 3, append(d.Nodes, impl.Node{Id: 2}), []impl.Turn{create("temp", 2)}
	wantOpened(t, "TempFile was created", d, l, 3, []impl.Node{left(1, log)}, hist)
	d.Turns = manyTurns(impl.MaxTurns)
	d.Kept = []impl.Link{{Name: "a", Id: 2}, {Name: "hist", Id: 1}}
	wantOpened(t, "MaxTurns turns", d, l, 3, []impl.Node{left(1, log), {Id: 2}}, d.Kept)
	beside := fileDisk("a", "xyz", "hist", log)
	beside.Nodes[0].Safe = []byte("x")
	wantOpened(t, "another file isn't made safe", beside, l, 3, beside.Nodes, beside.Kept)
}

func TestOpenOfKeepAndSize(t *testing.T) {
	d := fileDisk("hist", string(framesOf(nums(1, 2, 3))))
	dark := cloneDisk(d)
	dark.Fuse = 0
	for _, keep := range append(extremes(), 2, 99, impl.MaxKeep, impl.MaxKeep+1) {
		for _, size := range append(extremes(), 2, 59999, impl.MaxDisk, impl.MaxDisk+1) {
			right := keep >= 1 && keep <= 100 && size >= 0 && size <= 60000
			got, code := wantOpen(t, d, keep, size)
			if right && (code != 0 || got.Keep != keep || got.Size != size || len(got.List) != 3) {
				t.Errorf("Open with %d, %d is %s, %d", keep, size, brief(got), code)
			}
			if !right && (code != 1 || !sameStore(got, impl.Store{})) {
				t.Errorf("Open with %d, %d is %s, %d; want nothing and 1", keep, size, brief(got), code)
			}
			// Wrong arguments are told ahead of want of power.
			want := 2
			if !right {
				want = 1
			}
			if _, code := wantOpen(t, dark, keep, size); code != want {
				t.Errorf("Open without power with %d, %d has code %d; want %d", keep, size, code, want)
			}
		}
	}
}

func TestOpenOfWrongDisks(t *testing.T) {
	for _, d := range wrongDisks() {
		if got, code := wantOpen(t, d, 3, 40); code != 1 || !sameStore(got, impl.Store{}) {
			t.Errorf("Open of %s is %s, %d; want nothing and 1", brief(d), brief(got), code)
		}
	}
}

// crowded has n files, and HistFile among them if it is asked for.
func crowded(n int, names ...string) impl.Disk {
	for i := range n - len(names) {
		names = append(names, "m"+string(rune('a'+i)))
	}
	slices.Sort(names)
	var files []string
	for _, name := range names {
		files = append(files, name, "")
	}
	return fileDisk(files...)
}

// wantNoFile asks for code 4 of Open, and the disk behind those operations beside it.
func wantNoFile(t *testing.T, what string, d impl.Disk, done ...impl.Op) {
	t.Helper()
	want := impl.Store{Disk: doAll(t, d, done...), Keep: 3, Size: 40}
	if got, code := wantOpen(t, d, 3, 40); code != 4 || !sameStore(got, want) {
		t.Errorf("%s: Open is %s, %d\nwant %s, 4", what, brief(got), code, brief(want))
	}
}

func TestOpenWithoutPlaceForTheFile(t *testing.T) {
	wantNoFile(t, "MaxNodes nodes", crowded(8), opSyncDir())
	wantNoFile(t, "MaxNodes nodes with TempFile", crowded(8, "temp"), opSyncDir(), opRemove("temp"))
	last := crowded(2)
	last.Next = impl.MaxId
	wantNoFile(t, "no Id left", last, opSyncDir())
	last = crowded(2, "temp")
	last.Next, last.Turns = impl.MaxId, []impl.Turn{rename("ma", "mb")}
	wantNoFile(t, "no Id left, with TempFile", last, opSyncDir(), opRemove("temp"))
	fused := crowded(8, "temp")
	fused.Fuse = 3
	wantNoFile(t, "power for what is done", fused, opSyncDir(), opRemove("temp"))
	wantDone := func(what string, d impl.Disk) {
		t.Helper()
		if _, code := wantOpen(t, d, 3, 40); code != 0 {
			t.Errorf("%s: Open has code %d", what, code)
		}
	}
	wantDone("MaxNodes - 1 nodes", crowded(7))
	wantDone("MaxNodes nodes with HistFile", crowded(8, "hist"))
	wantDone("MaxNodes nodes with both", crowded(8, "hist", "temp"))
	last = crowded(2)
	last.Next = impl.MaxId - 1
	wantDone("an Id left", last)
	last = crowded(2, "hist")
	last.Next = impl.MaxId
	wantDone("no Id left and none needed", last)
	gone := crowded(8)
	gone.Turns = []impl.Turn{remove("ma")}
	wantDone("a node that nothing names any more", gone)
	gone = crowded(8, "temp")
	gone.Turns = []impl.Turn{remove("temp")}
	wantDone("TempFile removed ahead", gone)
	turned := crowded(2, "a")
	turned.Turns = manyTurns(impl.MaxTurns)
	wantDone("MaxTurns turns", turned)
}

// Where the create is refused, the power that is left stays.
func TestOpenWithoutPlaceAndPower(t *testing.T) {
	for fuse := range 6 {
		d := crowded(8, "temp")
		d.Fuse = fuse
		got, code := wantOpen(t, d, 3, 40)
		want := 4
		if fuse < 3 {
			want = 2
		}
		if code != want || got.Disk.Fuse != max(fuse-2, 0) {
			t.Errorf("with power for %d operations Open has code %d and leaves %d", fuse, code, got.Disk.Fuse)
		}
	}
}
