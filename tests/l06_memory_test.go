package tests

import (
	"bytes"
	"slices"
	"strings"
	"testing"

	"loop.example/g00600/impl"
)

// storeCall is a call of a function of the store; its name says what it comes to.
type storeCall struct {
	what string
	give impl.Store
	call func(s impl.Store, text string) (impl.Store, int)
	code int
}

func callOpen(s impl.Store, text string) (impl.Store, int) { return impl.Open(s.Disk, s.Keep, s.Size) }
func callAdd(s impl.Store, text string) (impl.Store, int)  { return impl.Add(s, text) }
func callTidy(s impl.Store, text string) (impl.Store, int) { return impl.Tidy(s) }

// storeCalls are calls with each code of each function that has a store beside it.
func storeCalls() []storeCall {
	list := entriesFrom(7, "ls", "make -j", "cd /")
	log := string(framesOf(list))
	with := func(s impl.Store, change func(s *impl.Store)) impl.Store {
		change(&s)
		return s
	}
	on := func(d impl.Disk) impl.Store { return impl.Store{Disk: d, Keep: 2, Size: 20} }
	turned := with(someStore(), func(s *impl.Store) { s.Disk.Turns = []impl.Turn{rename("hist", "x"), rename("x", "hist")} })
	fuse := func(n int) func(s *impl.Store) { return func(s *impl.Store) { s.Disk.Fuse = n } }
	last := func(s *impl.Store) { s.Disk.Next = impl.MaxId }
	return []storeCall{
		{"Open of records", on(fileDisk("hist", log)), callOpen, 0},
		{"Open of a torn file and of TempFile", on(fileDisk("b", "x", "hist", log[:30], "temp", log)), callOpen, 0},
		{"Open of an empty disk", on(fileDisk()), callOpen, 0},
		{"Open of turns", on(turned.Disk), callOpen, 0},
		{"Open without power", with(on(turned.Disk), fuse(0)), callOpen, 2},
		{"Open with some power", with(on(fileDisk("hist", log[:30], "temp", log)), fuse(3)), callOpen, 2},
		{"Open without place", on(crowded(8, "temp")), callOpen, 4},
		{"Add", someStore(), callAdd, 0},
		{"Add with turns", turned, callAdd, 0},
		{"Add to nothing", storeOf(50, 2, 20, nil), callAdd, 0},
		{"Add without power", with(turned, fuse(0)), callAdd, 2},
		{"Add with some power", with(turned, fuse(1)), callAdd, 2},
		{"Add behind the last Num", with(storeOf(9, 2, 20, nums(impl.MaxSeq)), func(s *impl.Store) { s.Disk.Turns = turned.Disk.Turns }), callAdd, 3},
		{"Add without room", storeOf(11, 2, 20, list), callAdd, 5},
		{"Tidy", someStore(), callTidy, 0},
		{"Tidy with turns", turned, callTidy, 0},
		{"Tidy of little", with(turned, func(s *impl.Store) { s.Size = 100 }), callTidy, 0},
		{"Tidy of few", with(turned, func(s *impl.Store) { s.Keep = 3 }), callTidy, 0},
		{"Tidy without power", with(turned, fuse(0)), callTidy, 2},
		{"Tidy with some power", with(turned, fuse(3)), callTidy, 2},
		{"Tidy without place", with(turned, last), callTidy, 4},
		{"Tidy without room", storeOf(11, 2, 20, list), callTidy, 5},
	}
}

// roomyStore tells s with spare room behind every list and texts of its own, and whether all of that is as it was.
func roomyStore(s impl.Store) (impl.Store, func() bool) {
	d, diskLeft := roomyDisk(s.Disk)
	list, listLeft := roomyEntries(s.List)
	return impl.Store{Disk: d, Keep: s.Keep, Size: s.Size, List: list, Len: s.Len}, func() bool { return diskLeft() && listLeft() }
}

func spoilStore(s impl.Store) {
	spoilDisk(s.Disk)
	spoilEntries(s.List)
}

// textsOf are all texts in a store.
func textsOf(s impl.Store) []string {
	out := namesOf(s.Disk)
	for _, e := range s.List {
		out = append(out, e.Text)
	}
	return out
}

func TestCallsOfTheStoreLeaveTheirArguments(t *testing.T) {
	for _, c := range storeCalls() {
		s, left := roomyStore(c.give)
		text := strings.Clone("more")
		out, code := c.call(s, text)
		if code != c.code {
			t.Fatalf("%s has code %d; want %d", c.what, code, c.code)
		}
		if !left() {
			t.Errorf("%s changes its argument", c.what)
		}
		given := append(textsOf(s), text)
		for _, told := range textsOf(out) {
			if slices.ContainsFunc(given, func(g string) bool { return textsMeet(told, g) }) {
				t.Errorf("%s: the text %q lies in an argument", c.what, told)
			}
		}
		want := cloneStore(out)
		again, _ := c.call(s, text)
		if !sameStore(again, want) {
			t.Errorf("%s answers something else the second time", c.what)
		}
		spoilStore(again)
		if !left() || !sameStore(out, want) {
			t.Errorf("%s: an answer shares memory with an argument or with another answer", c.what)
		}
		spoilStore(s)
		if !sameStore(out, want) {
			t.Errorf("%s: a change of the argument changes the answer", c.what)
		}
	}
}

// Of one answer each content is overwritten, one at a time; the others must stay.
func TestStoresAnswerListsThatShareNothing(t *testing.T) {
	for _, c := range storeCalls() {
		out, _ := c.call(c.give, "more")
		var lists [][]byte
		for _, n := range out.Disk.Nodes {
			lists = append(lists, n.Body, n.Safe)
		}
		for i := range lists {
			var before [][]byte
			for _, b := range lists {
				before = append(before, bytes.Clone(b[:cap(b)]))
			}
			spoil(lists[i])
			for j, b := range lists {
				if i != j && !bytes.Equal(b[:cap(b)], before[j]) {
					t.Errorf("%s: two contents of one answer share memory", c.what)
				}
			}
		}
	}
}

func TestWhatIsAskedOfAStoreLeavesIt(t *testing.T) {
	for _, c := range storeCalls() {
		s, left := roomyStore(c.give)
		impl.StoreOk(s)
		impl.NextNum(s)
		first := impl.Found(s.Disk)
		want := cloneEntries(first)
		spoilEntries(impl.Found(s.Disk))
		if !left() || !slices.Equal(first, want) {
			t.Errorf("%s: asking changes the store, or two answers share memory", c.what)
		}
		spoilStore(s)
		if !slices.Equal(first, want) {
			t.Errorf("%s: what Found tells lies in the disk", c.what)
		}
	}
}

// Beside the code 1 nothing is answered, and nothing is changed.
func TestRefusedCallsOfTheStoreLeaveTheirArguments(t *testing.T) {
	for _, d := range wrongDisks() {
		s := someStore()
		s.Disk = d
		arg, left := roomyStore(s)
		for _, call := range []func(s impl.Store, text string) (impl.Store, int){callOpen, callAdd, callTidy} {
			if out, code := call(arg, "more"); code != 1 || !sameStore(out, impl.Store{}) || !left() {
				t.Errorf("with the disk %s the answer is %s, %d", brief(d), brief(out), code)
			}
		}
	}
}

// An empty list and none are the same.
func TestStoresOfEmptyLists(t *testing.T) {
	bare := impl.Disk{Room: 30, Fuse: -1, Next: 2, Nodes: []impl.Node{{Id: 1}}, Kept: []impl.Link{{Name: "hist", Id: 1}}}
	empty := impl.Disk{Room: 30, Fuse: -1, Next: 2, Nodes: []impl.Node{{Id: 1, Body: []byte{}, Safe: []byte{}}}, Kept: []impl.Link{{Name: "hist", Id: 1}}, Turns: []impl.Turn{}}
	for _, d := range []impl.Disk{bare, empty} {
		for _, list := range [][]impl.Entry{nil, {}} {
			s := impl.Store{Disk: d, Keep: 1, List: list}
			wantStore(t, "an empty store", s, true)
			if got, code := wantAdd(t, s, "ls"); code != 0 || len(got.List) != 1 {
				t.Errorf("Add to an empty store is %s, %d", brief(got), code)
			}
			wantUntidied(t, "Tidy of an empty store", s)
		}
	}
}
