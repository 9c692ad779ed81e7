package tests

import (
	"bytes"
	"slices"
	"testing"

	"loop.example/g00600/impl"
)

// ledger is what was told of a store: the entries that were kept or found, in order, and the one, if any, whose adding was cut short.
type ledger struct {
	sure  []impl.Entry
	maybe []impl.Entry
	keep  int
}

// fair says whether the list is the last of what is sure, all of it or at least keep entries.
func (l *ledger) fair(list []impl.Entry) bool {
	n := len(list)
	return n <= len(l.sure) && (n == len(l.sure) || n >= l.keep) && slices.Equal(list, l.sure[len(l.sure)-n:])
}

// take asks whether what a start found is fair, with at most the one entry more, and counts what was found as kept.
func (l *ledger) take(list []impl.Entry) bool {
	if len(l.maybe) == 1 && len(list) > 0 && list[len(list)-1] == l.maybe[0] {
		if !l.fair(list[:len(list)-1]) {
			return false
		}
		l.sure = append(l.sure, l.maybe[0])
	}
	l.maybe = nil
	return l.fair(list)
}

// bytesOf is the file that the history is kept in.
func bytesOf(d impl.Disk) []byte {
	b, _ := impl.DiskRead(d, impl.HistFile)
	return b
}

// wantSameAgain asks that starting again, at once, behind a crash, and behind a start that was cut short and a crash, finds the same in the same bytes.
func wantSameAgain(t *testing.T, s impl.Store, by *dice) {
	t.Helper()
	d := s.Disk
	for range 2 {
		again, code := impl.Open(d, s.Keep, s.Size)
		if code != 0 || !sameStore(again, s) || !bytes.Equal(bytesOf(again.Disk), bytesOf(s.Disk)) {
			t.Fatalf("starting twice finds %s, %d\nwhere once finds %s", brief(again), code, brief(s))
		}
		cut, _ := impl.DiskFuse(s.Disk, by.roll(4))
		short, _ := impl.Open(cut, s.Keep, s.Size)
		d, _ = impl.DiskCrash(short.Disk, by.roll(3), someCuts(by))
	}
}

// life is a store that is used, loses its power and is opened again, with what was told of it.
type life struct {
	ledger
	by   *dice
	size int
	met  map[string]int
}

// start opens a disk, at first with power that may end, until it is done.
func (l *life) start(t *testing.T, d impl.Disk) impl.Store {
	t.Helper()
	before := impl.Found(d)
	for range l.by.roll(4) {
		cut, _ := impl.DiskFuse(d, l.by.roll(6))
		short, code := impl.Open(cut, l.keep, l.size)
		if code == 2 {
			l.met["a start cut short"]++
		}
		d, _ = impl.DiskCrash(short.Disk, l.by.roll(4), someCuts(l.by))
		if !slices.Equal(impl.Found(d), before) {
			t.Fatalf("behind a start that was cut short %s is found, where %s was", brief(impl.Found(d)), brief(before))
		}
	}
	s, code := impl.Open(d, l.keep, l.size)
	if code != 0 || !slices.Equal(s.List, before) || !impl.StoreOk(s) {
		t.Fatalf("Open of %s is %s, %d", brief(d), brief(s), code)
	}
	if len(l.maybe) == 1 && len(s.List) > 0 && s.List[len(s.List)-1] == l.maybe[0] {
		l.met["an entry more"]++
	} else if len(l.maybe) == 1 {
		l.met["no entry more"]++
	}
	if !l.take(s.List) {
		t.Fatalf("a start finds %s, where %s was kept", brief(s.List), brief(l.sure))
	}
	wantSameAgain(t, s, l.by)
	return s
}

func (l *life) add(t *testing.T, s impl.Store) impl.Store {
	t.Helper()
	e := impl.Entry{Num: impl.NextNum(s), Text: string(someBytes(1+l.by.roll(25), uint32(l.by.roll(1<<20))))}
	out, code := impl.Add(s, e.Text)
	switch code {
	case 0:
		l.sure = append(l.sure, e)
		l.met["added"]++
	case 2:
		l.maybe = []impl.Entry{e}
		l.met["an adding cut short"]++
	case 5:
		l.met["no room to add"]++
	default:
		t.Fatalf("Add to %s has code %d", brief(s), code)
	}
	if !impl.StoreOk(out) || !l.fair(out.List) {
		t.Fatalf("behind an Add with code %d the store is %s, where %s was kept", code, brief(out), brief(l.sure))
	}
	return out
}

func (l *life) tidy(t *testing.T, s impl.Store) impl.Store {
	t.Helper()
	out, code := impl.Tidy(s)
	switch {
	case code == 0 && len(out.List) < len(s.List):
		l.met["tidied"]++
	case code == 0:
		l.met["nothing to tidy"]++
	case code == 2:
		l.met["a tidying cut short"]++
	case code == 5:
		l.met["no room to tidy"]++
	default:
		t.Fatalf("Tidy of %s has code %d", brief(s), code)
	}
	if !impl.StoreOk(out) || !l.fair(out.List) {
		t.Fatalf("behind a Tidy with code %d the store is %s, where %s was kept", code, brief(out), brief(l.sure))
	}
	return out
}

// use adds and tidies until the power goes, with the room and the power changing between.
func (l *life) use(t *testing.T, s impl.Store) impl.Store {
	t.Helper()
	for range l.by.roll(12) {
		if d, ok := impl.DiskRoom(s.Disk, impl.DiskUsed(s.Disk)+l.by.roll(150)); ok && l.by.roll(3) == 0 {
			s.Disk = d
		}
		if l.by.roll(3) == 0 {
			s.Disk, _ = impl.DiskFuse(s.Disk, l.by.roll(8)-1)
		}
		if l.by.roll(3) > 0 {
			s = l.add(t, s)
		} else {
			s = l.tidy(t, s)
		}
		if s.Disk.Fuse == 0 {
			return s
		}
	}
	return s
}

// Whatever is cut short, over and over: what is found is the last of what was told to be kept.
func TestP2OfLongLives(t *testing.T) {
	met := map[string]int{}
	for seed := range 500 {
		by := dice(seed * 67867967)
		l := life{by: &by, size: pick(&by, []int{0, 20, 60, 200}), met: met}
		l.keep = 1 + by.roll(5)
		d, _ := impl.DiskNew(50 + by.roll(400))
		for range 20 {
			s := l.use(t, l.start(t, d))
			var ok bool
			if d, ok = impl.DiskCrash(s.Disk, by.roll(5)-1, someLongCuts(&by)); !ok {
				t.Fatalf("no crash of %s", brief(s.Disk))
			}
		}
	}
	for _, what := range []string{"a start cut short", "an entry more", "no entry more", "added", "an adding cut short", "no room to add", "tidied", "nothing to tidy", "a tidying cut short", "no room to tidy"} {
		if met[what] < 50 {
			t.Errorf("%s was met %d times alone", what, met[what])
		}
	}
}

// someLongCuts reach over whole records.
func someLongCuts(by *dice) []int {
	if by.roll(2) == 0 {
		return []int{by.roll(60), by.roll(60)}
	}
	return someCuts(by)
}

// wantFair goes through every crash of a disk, every power for the start behind it, and crashes of that, and asks that the last start finds what is fair.
func wantFair(t *testing.T, what string, d impl.Disk, told ledger) {
	t.Helper()
	crashesOf(t, d, func(after impl.Disk) {
		first := impl.Found(after)
		for fuse := range 7 {
			cut, _ := impl.DiskFuse(after, fuse)
			short, code := impl.Open(cut, told.keep, 10)
			if code != 0 && code != 2 {
				t.Fatalf("%s: a start has code %d", what, code)
			}
			for _, turns := range []int{0, 1, 2} {
				for _, step := range []int{0, 1, 5, 99} {
					again, _ := impl.DiskCrash(short.Disk, turns, []int{step})
					s, code := impl.Open(again, told.keep, 10)
					now := ledger{sure: slices.Clone(told.sure), maybe: told.maybe, keep: told.keep}
					if code != 0 || !slices.Equal(s.List, first) || !now.take(s.List) {
						t.Fatalf("%s: a start with power for %d operations, then one without end, finds %s, %d\nwhere %s was kept, and %s perhaps", what, fuse, brief(s.List), code, brief(told.sure), brief(told.maybe))
					}
				}
			}
		}
	})
}

func TestP2OfEveryCutOfAnAdd(t *testing.T) {
	for _, list := range [][]impl.Entry{nil, entriesFrom(4, "a", "bc", "def")} {
		for _, spare := range []int{0, 3, 11, 12, 40} {
			for fuse := -1; fuse <= 4; fuse++ {
				s := storeOf(spare, 1, 10, list)
				s.Disk.Fuse = fuse
				told := ledger{sure: slices.Clone(list), keep: 1}
				e := impl.Entry{Num: impl.NextNum(s), Text: "xy"}
				out, code := impl.Add(s, "xy")
				if code == 0 {
					told.sure = append(told.sure, e)
				}
				if code == 2 {
					told.maybe = []impl.Entry{e}
				}
				wantFair(t, "Add", out.Disk, told)
			}
		}
	}
}

func TestP2OfEveryCutOfATidying(t *testing.T) {
	list := entriesFrom(4, "a", "bc", "def")
	for keep := 1; keep <= 3; keep++ {
		for _, spare := range []int{0, 5, 12, 13, 24, 25, 60} {
			for fuse := -1; fuse <= 7; fuse++ {
				s := storeOf(spare, keep, 10, list)
				s.Disk.Fuse = fuse
				out, code := impl.Tidy(s)
				if code == 0 && keep < 3 && len(impl.Found(out.Disk)) != keep {
					t.Fatalf("what was told to be tidied isn't: %s", brief(out))
				}
				wantFair(t, "Tidy", out.Disk, ledger{sure: list, keep: keep})
			}
		}
	}
}

func TestP2OfEveryCutOfAStart(t *testing.T) {
	list := entriesFrom(4, "a", "bc", "def")
	log := string(framesOf(list))
	for n := range len(log) + 1 {
		found, _ := modelScan([]byte(log[:n]))
		wantFair(t, "Open of a torn file", fileDisk("hist", log[:n]), ledger{sure: found, keep: 1})
		wantFair(t, "Open where TempFile was left", fileDisk("hist", log, "temp", log[:n]), ledger{sure: list, keep: 1})
	}
	wantFair(t, "Open of TempFile alone", fileDisk("temp", log), ledger{keep: 1})
	empty, _ := impl.DiskNew(9)
	wantFair(t, "Open of a new disk", empty, ledger{keep: 1})
}

// An adding behind a tidying, and a tidying behind an adding: what was told ahead of the one that is cut short is kept.
func TestP2OfOneBehindTheOther(t *testing.T) {
	list := entriesFrom(4, "a", "bc", "def")
	e := impl.Entry{Num: 7, Text: "xyz"}
	for fuse := range 10 {
		s := storeOf(80, 2, 10, list)
		s.Disk.Fuse = fuse
		told := ledger{sure: slices.Clone(list), keep: 2}
		tidied, _ := impl.Tidy(s)
		both, code := impl.Add(tidied, "xyz")
		if code == 0 {
			told.sure = append(told.sure, e)
		} else {
			told.maybe = []impl.Entry{e}
		}
		wantFair(t, "Tidy and Add", both.Disk, told)
		told = ledger{sure: slices.Clone(list), keep: 2}
		added, code := impl.Add(s, "xyz")
		if code == 0 {
			told.sure = append(told.sure, e)
		} else {
			told.maybe = []impl.Entry{e}
		}
		both, _ = impl.Tidy(added)
		wantFair(t, "Add and Tidy", both.Disk, told)
	}
}

// What was told to be kept or tidied needs no more power: a crash at once finds just that.
func TestP2WhatIsToldIsSafe(t *testing.T) {
	for seed := range 300 {
		by := dice(seed * 86028121)
		d, _ := impl.DiskNew(2000)
		s, _ := impl.Open(d, 1+by.roll(4), by.roll(100))
		for range 15 {
			s, _ = impl.Add(s, string(someBytes(1+by.roll(30), uint32(by.roll(1<<20)))))
			if by.roll(3) == 0 {
				s, _ = impl.Tidy(s)
			}
			after, _ := impl.DiskCrash(s.Disk, by.roll(5), someLongCuts(&by))
			again, code := impl.Open(after, s.Keep, s.Size)
			if code != 0 || !sameStore(again, s) {
				t.Fatalf("behind a crash at once Open is %s, %d\nwant %s", brief(again), code, brief(s))
			}
		}
	}
}
