package tests

import (
	"slices"
	"strconv"
	"strings"
	"testing"

	"loop.example/g00600/impl"
)

// maybes are what may be there ahead of a step: nothing, an entry, and more than steps can leave.
func maybes() [][]impl.Entry {
	return [][]impl.Entry{nil, {{Num: 10, Text: "other"}}, {{Num: 10, Text: "x"}}, nums(10, 11), {{Num: -4}}}
}

// wantAddTo asks for a TrAdd of "x" that the store answers with that code.
func wantAddTo(t *testing.T, given impl.Trial, code int, change func(w *impl.Trial)) {
	t.Helper()
	what := "TrAdd with code " + strconv.Itoa(code)
	store, got := modelAdd(given.Store, "x")
	if got != code {
		t.Fatalf("%s: the test itself is wrong: code %d", what, got)
	}
	wantTo(t, what, given, trAdd("x"), func(w *impl.Trial) {
		w.Store = store
		change(w)
	})
}

func TestTrAdd(t *testing.T) {
	for _, maybe := range maybes() {
		for _, fuse := range []int{-1, 2, 3, impl.MaxFuse} {
			for _, list := range [][]impl.Entry{nil, entriesFrom(7, "ls", "make -j", "cd /")} {
				given := upTrial(storeOf(11, 2, 20, list), maybe...)
				given.Store.Disk.Fuse = fuse
				e := impl.Entry{Num: impl.NextNum(given.Store), Text: "x"}
				wantAddTo(t, given, 0, func(w *impl.Trial) {
					w.Sure = append(w.Sure, e)
					w.Maybe = nil
				})
			}
		}
	}
	// What is sure isn't held against the list.
	given := upTrial(someStore())
	given.Sure = nums(500, 2)
	wantAddTo(t, given, 0, func(w *impl.Trial) { w.Sure = append(nums(500, 2), impl.Entry{Num: 10, Text: "x"}) })
	for _, text := range someTexts() {
		given := upTrial(storeOf(1010, 2, 20, nums(4)))
		got := wantStep(t, "TrAdd", given, trAdd(text))
		if len(got.Sure) != 3 || got.Sure[2] != (impl.Entry{Num: 5, Text: text}) || !impl.TrialFair(got) {
			t.Errorf("behind TrAdd of %q the trial is %s", text, brief(got))
		}
	}
}

func TestTrAddOfWhatIsNotRight(t *testing.T) {
	for _, maybe := range maybes() {
		for _, fuse := range []int{-1, 0, 1} {
			given := upTrial(someStore(), maybe...)
			given.Store.Disk.Fuse = fuse
			for _, text := range []string{"", strings.Repeat("x", 1001), strings.Repeat("x", 70000)} {
				wantStay(t, "TrAdd of a text that isn't right", given, trAdd(text))
			}
		}
		for _, given := range wrongTrials(maybe) {
			wantStay(t, "TrAdd to a store that isn't right", given, trAdd("x"))
		}
	}
}

// wrongTrials are up, with a store that isn't right.
func wrongTrials(maybe []impl.Entry) []impl.Trial {
	var out []impl.Trial
	add := func(change func(s *impl.Store)) {
		s := someStore()
		change(&s)
		out = append(out, upTrial(s, maybe...))
	}
	add(func(s *impl.Store) { *s = impl.Store{} })
	add(func(s *impl.Store) { s.Len++ })
	add(func(s *impl.Store) { s.List = s.List[1:] })
	add(func(s *impl.Store) { s.List[2].Num = 4 })
	add(func(s *impl.Store) { s.Keep = 0 })
	add(func(s *impl.Store) { s.Keep = 101 })
	add(func(s *impl.Store) { s.Size = -1 })
	add(func(s *impl.Store) { s.Size = 60001 })
	add(func(s *impl.Store) { s.Disk = fileDisk("hist", string(framesOf(s.List)), "temp", "") })
	add(func(s *impl.Store) { s.Disk.Nodes[0].Body[3]++ })
	for _, d := range wrongDisks() {
		add(func(s *impl.Store) { s.Disk = d })
	}
	return out
}

func TestTrAddWithoutPower(t *testing.T) {
	for _, maybe := range maybes() {
		dark := upTrial(someStore(), maybe...)
		dark.Store.Disk.Fuse = 0
		wantAddTo(t, dark, 2, func(w *impl.Trial) {})
		wantStay(t, "TrAdd with a Fuse of 0", dark, trAdd("x"))
		given := upTrial(someStore(), maybe...)
		given.Store.Disk.Fuse = 1
		wantAddTo(t, given, 2, func(w *impl.Trial) { w.Maybe = entriesFrom(10, "x") })
		for _, fuse := range []int{1, 2} {
			full := upTrial(storeOf(5, 2, 20, nil), maybe...)
			full.Store.Disk.Fuse = fuse
			wantAddTo(t, full, 2, func(w *impl.Trial) { w.Maybe = entriesFrom(1, "x") })
		}
	}
	// A second one, in the dark, leaves what the first was cut short in.
	given := upTrial(someStore())
	given.Store.Disk.Fuse = 1
	got := impl.TrialRun(given, []impl.TrialStep{trAdd("first"), trAdd("second")})
	if !slices.Equal(got.Maybe, entriesFrom(10, "first")) || got.Store.Disk.Fuse != 0 {
		t.Errorf("behind two TrAdd without power the trial is %s", brief(got))
	}
}

func TestTrAddBehindTheLastNum(t *testing.T) {
	for _, maybe := range maybes() {
		for _, fuse := range []int{-1, 0, 1} {
			given := upTrial(storeOf(50, 2, 20, nums(impl.MaxSeq)), maybe...)
			given.Store.Disk.Fuse = fuse
			wantAddTo(t, given, 3, func(w *impl.Trial) { w.Maybe = nil })
		}
	}
}

func TestTrAddWithoutRoom(t *testing.T) {
	for _, maybe := range maybes() {
		for _, fuse := range []int{-1, 3, 4} {
			given := upTrial(storeOf(10, 2, 20, nums(4)), maybe...)
			given.Store.Disk.Fuse = fuse
			given.Store.Disk.Nodes[0].Safe = nil
			wantAddTo(t, given, 5, func(w *impl.Trial) { w.Maybe = nil })
		}
	}
}

// wantTidyTo asks for a TrTidy that the store answers with that code; what is sure and what may be stays.
func wantTidyTo(t *testing.T, s impl.Store, code int) {
	t.Helper()
	what := "TrTidy with code " + strconv.Itoa(code)
	store, got := modelTidy(s)
	if got != code {
		t.Fatalf("%s: the test itself is wrong: code %d", what, got)
	}
	for _, maybe := range maybes() {
		wantTo(t, what, upTrial(s, maybe...), trTidy(), func(w *impl.Trial) { w.Store = store })
	}
}

func TestTrTidy(t *testing.T) {
	fused := func(s impl.Store, fuse int) impl.Store {
		s.Disk.Fuse = fuse
		return s
	}
	wantTidyTo(t, someStore(), 0)
	wantTidyTo(t, fused(someStore(), 6), 0)
	wantTidyTo(t, storeOf(100, 2, 20, nums(4, 5)), 0)
	wantTidyTo(t, storeOf(100, 2, 20, nil), 0)
	for fuse := range 6 {
		wantTidyTo(t, fused(someStore(), fuse), 2)
	}
	wantTidyTo(t, crowdedStore(7), 4)
	wantTidyTo(t, storeOf(11, 2, 20, someStore().List), 5)
	wantTidyTo(t, fused(storeOf(11, 2, 20, someStore().List), 4), 2)
	for _, maybe := range maybes() {
		for _, given := range wrongTrials(maybe) {
			wantStay(t, "TrTidy of a store that isn't right", given, trTidy())
		}
	}
	// The store's own Keep and Size count.
	given := upTrial(someStore())
	given.Keep, given.Size = 1, 1000
	if got := wantStep(t, "TrTidy", given, trTidy()); len(got.Store.List) != 2 || len(got.Sure) != 4 {
		t.Errorf("behind TrTidy the trial is %s", brief(got))
	}
}

func TestTrRoom(t *testing.T) {
	used := someStore().Len
	for _, fuse := range []int{-1, 0, 4} {
		for _, room := range append(extremes(), used-1, used, used+1, 100, impl.MaxDisk-1, impl.MaxDisk, impl.MaxDisk+1) {
			given := upTrial(someStore(), nums(10)...)
			given.Store.Disk.Fuse = fuse
			wantTo(t, "TrRoom with "+strconv.Itoa(room), given, trRoom(room), func(w *impl.Trial) {
				if room >= used && room <= 60000 {
					w.Store.Disk.Room = room
				}
			})
		}
	}
	empty := upTrial(storeOf(5, 1, 0, nil))
	wantTo(t, "TrRoom of an empty disk", empty, trRoom(0), func(w *impl.Trial) { w.Store.Disk.Room = 0 })
	wantStay(t, "TrRoom below 0", empty, trRoom(-1))
}

// The disk would take the room, but the store with it isn't right.
func TestTrRoomOfStoresThatAreNotRight(t *testing.T) {
	for i, given := range wrongTrials(nil) {
		for _, room := range []int{0, 20, 50, 100, 200, impl.MaxDisk} {
			wantStay(t, "TrRoom of wrong store "+strconv.Itoa(i), given, trRoom(room))
		}
	}
	// Without power the file may be anything.
	for _, s := range []impl.Store{cutShort(), {Disk: impl.Disk{Next: 1}, Keep: 1, Len: -7, List: nums(3)}} {
		wantTo(t, "TrRoom without power", upTrial(s), trRoom(500), func(w *impl.Trial) { w.Store.Disk.Room = 500 })
		s.Keep = 0
		wantStay(t, "TrRoom without power, the store isn't right", upTrial(s), trRoom(500))
	}
}

// wantFuseTo asks for TrFuse of the disk in use, up and not up; the one that isn't in use is another.
func wantFuseTo(t *testing.T, d impl.Disk, fuse int, want int) {
	t.Helper()
	for _, other := range []impl.Disk{{}, {Fuse: -1, Next: 1}, {Fuse: 0, Next: 1}, someDisk()} {
		up := upTrial(someStore(), nums(10)...)
		up.Store.Disk, up.Disk = cloneDisk(d), cloneDisk(other)
		wantTo(t, "TrFuse, up", up, trFuse(fuse), func(w *impl.Trial) { w.Store.Disk.Fuse = want })
		down := downTrial(d, nums(4), nums(5)...)
		down.Store.Disk = cloneDisk(other)
		wantTo(t, "TrFuse, not up", down, trFuse(fuse), func(w *impl.Trial) { w.Disk.Fuse = want })
	}
}

func TestTrFuse(t *testing.T) {
	all := append(extremes(), -2, 5, 999, impl.MaxFuse, impl.MaxFuse+1)
	for _, fuse := range all {
		for _, ahead := range []int{-1, 0, 1, 5, impl.MaxFuse} {
			want := ahead
			if ahead != 0 && fuse >= -1 && fuse <= 1000 {
				want = fuse
			}
			for _, d := range []impl.Disk{someStore().Disk, someDisk(), {Next: 1}} {
				d.Fuse = ahead
				wantFuseTo(t, d, fuse, want)
			}
		}
		for _, d := range wrongDisks() {
			wantFuseTo(t, d, fuse, d.Fuse)
		}
	}
	// A store that isn't right, on a disk that is, has its power all the same.
	given := wrongTrials(nil)[1]
	wantTo(t, "TrFuse of a store that isn't right", given, trFuse(3), func(w *impl.Trial) { w.Store.Disk.Fuse = 3 })
}

// wantCrashTo asks for TrCrash of the disk in use, up and not up; the one that isn't in use is another.
func wantCrashTo(t *testing.T, d impl.Disk, turns int, cuts []int) {
	t.Helper()
	after, ok := modelCrash(d, turns, cuts)
	for _, other := range []impl.Disk{{}, someStore().Disk, {Next: 1}} {
		up := upTrial(someStore(), nums(10)...)
		up.Store.Disk, up.Disk = cloneDisk(d), cloneDisk(other)
		down := downTrial(d, nums(4), nums(5)...)
		down.Store = someStore()
		down.Store.Disk = cloneDisk(other)
		for _, given := range []impl.Trial{up, down} {
			wantTo(t, "TrCrash", given, trCrash(turns, cuts...), func(w *impl.Trial) {
				if ok {
					w.Up, w.Store, w.Disk = false, impl.Store{}, after
				}
			})
		}
	}
}

func TestTrCrash(t *testing.T) {
	for _, turns := range append(extremes(), 2, 3, 4, 5, 40) {
		for _, cuts := range [][]int{nil, {}, {0}, {3}, {99}, {-1, 4}, {1, 2, 3, 4, 5, 6, 7, 8, 9}, extremes()} {
			for _, d := range []impl.Disk{someDisk(), someStore().Disk, cutShort().Disk, {Next: 1}} {
				if _, ok := modelCrash(d, turns, cuts); !ok {
					t.Fatal("the test itself is wrong")
				}
				wantCrashTo(t, d, turns, cuts)
			}
		}
	}
	for _, d := range wrongDisks() {
		for _, turns := range []int{-1, 0, 2, 9} {
			wantCrashTo(t, d, turns, nil)
			wantCrashTo(t, d, turns, []int{1, 2})
		}
	}
	// Power comes back with it, and a store that isn't right is gone with it.
	given := upTrial(cutShort(), nums(10)...)
	if got := wantStep(t, "TrCrash", given, trCrash(0)); got.Up || got.Disk.Fuse != -1 || !slices.Equal(got.Maybe, nums(10)) {
		t.Errorf("behind TrCrash the trial is %s", brief(got))
	}
	if got := wantStep(t, "TrCrash", wrongTrials(nil)[1], trCrash(0)); got.Up {
		t.Errorf("behind TrCrash of a store that isn't right the trial is %s", brief(got))
	}
}

// wantStartTo asks for a TrStart that Open answers with that code; a store that the trial has while it isn't up isn't looked at.
func wantStartTo(t *testing.T, given impl.Trial, code int, change func(w *impl.Trial)) {
	t.Helper()
	what := "TrStart with code " + strconv.Itoa(code)
	store, got := modelOpen(given.Disk, given.Keep, given.Size)
	if got != code {
		t.Fatalf("%s: the test itself is wrong: code %d", what, got)
	}
	for _, old := range []impl.Store{{}, someStore()} {
		given.Store = old
		wantTo(t, what, given, trStart(), func(w *impl.Trial) {
			if code == 0 {
				w.Up, w.Store, w.Disk, w.Maybe = true, store, impl.Disk{}, nil
			} else if code != 1 {
				w.Disk = store.Disk
			}
			change(w)
		})
	}
}

func TestTrStart(t *testing.T) {
	l := entriesFrom(7, "ls", "make -j", "cd /")
	file := fileDisk("hist", string(framesOf(l)))
	stays := func(w *impl.Trial) {}
	empty, _ := impl.DiskNew(50)
	wantStartTo(t, downTrial(empty, nil), 0, stays)
	wantStartTo(t, downTrial(file, l), 0, stays)
	wantStartTo(t, downTrial(file, nums(500, 3)), 0, stays)
	// The one that was cut short is there, as the last.
	wantStartTo(t, downTrial(file, l[:2], l[2]), 0, func(w *impl.Trial) { w.Sure = l })
	wantStartTo(t, downTrial(file, nil, l[2]), 0, func(w *impl.Trial) { w.Sure = l[2:] })
	wantStartTo(t, downTrial(file, l, l[2]), 0, func(w *impl.Trial) { w.Sure = append(w.Sure, l[2]) })
	torn := fileDisk("hist", string(framesOf(l))+"torn", "temp", "left")
	wantStartTo(t, downTrial(torn, l[:2], l[2]), 0, func(w *impl.Trial) { w.Sure = l })
	// It isn't, or isn't the last.
	others := []impl.Entry{l[0], l[1], {Num: 9, Text: "cd"}, {Num: 10, Text: "cd /"}, {Num: 8, Text: "cd /"}, {Num: 10, Text: "x"}, {}}
	for _, e := range others {
		wantStartTo(t, downTrial(file, l, e), 0, stays)
		wantStartTo(t, downTrial(empty, nil, e), 0, stays)
	}
	// More than one is not the one.
	for _, maybe := range [][]impl.Entry{l, l[1:], {l[2], l[2]}, {l[2], l[0]}} {
		wantStartTo(t, downTrial(file, l, maybe...), 0, stays)
	}
}

func TestTrStartOfWhatIsNotRight(t *testing.T) {
	l := entriesFrom(7, "ls", "make -j", "cd /")
	file := fileDisk("hist", string(framesOf(l)))
	stays := func(w *impl.Trial) {}
	for _, fuse := range []int{-1, 0, 2} {
		file.Fuse = fuse
		for _, keep := range []int{-1, 0, impl.MaxKeep + 1, 1 << 40} {
			given := downTrial(file, l[:2], l[2])
			given.Keep = keep
			wantStartTo(t, given, 1, stays)
		}
		for _, size := range []int{-1, impl.MaxDisk + 1, 1 << 40} {
			given := downTrial(file, l[:2], l[2])
			given.Size = size
			wantStartTo(t, given, 1, stays)
		}
	}
	for _, d := range wrongDisks() {
		wantStartTo(t, downTrial(d, l[:2], l[2]), 1, stays)
	}
	wantStartTo(t, impl.Trial{}, 1, stays)
}

// The Keep and the Size are those of the trial.
func TestTrStartTakesKeepAndSize(t *testing.T) {
	for _, keep := range []int{1, 50, impl.MaxKeep} {
		for _, size := range []int{0, 50, impl.MaxDisk} {
			given := downTrial(someStore().Disk, nil)
			given.Keep, given.Size = keep, size
			got := wantStep(t, "TrStart", given, trStart())
			if !got.Up || got.Store.Keep != keep || got.Store.Size != size || got.Keep != keep || got.Size != size {
				t.Errorf("behind TrStart with %d, %d the trial is %s", keep, size, brief(got))
			}
		}
	}
}

func TestTrStartWithoutPower(t *testing.T) {
	l := entriesFrom(7, "ls", "make -j", "cd /")
	stays := func(w *impl.Trial) {}
	d := fileDisk("hist", string(framesOf(l))+"torn", "temp", "left")
	for fuse := range 5 {
		d.Fuse = fuse
		given := downTrial(d, l[:2], l[2])
		wantStartTo(t, given, 2, stays)
		if got := impl.TrialDo(given, trStart()); got.Up || got.Disk.Fuse != 0 || !slices.Equal(got.Maybe, l[2:]) || !slices.Equal(got.Sure, l[:2]) {
			t.Errorf("behind TrStart with power for %d operations the trial is %s", fuse, brief(got))
		}
	}
	d.Fuse = 5
	wantStartTo(t, downTrial(d, l[:2], l[2]), 0, func(w *impl.Trial) { w.Sure = l })
	crowd := crowded(8, "temp")
	for _, fuse := range []int{-1, 2, 9} {
		crowd.Fuse = fuse
		code := 4
		if fuse == 2 {
			code = 2
		}
		wantStartTo(t, downTrial(crowd, l[:2], l[2]), code, stays)
	}
	// What may be is found out when there is power again.
	given := downTrial(d, l[:2], l[2])
	got := impl.TrialRun(given, []impl.TrialStep{trFuse(3), trStart(), trFuse(9), trStart(), trCrash(0), trStart()})
	if !got.Up || !slices.Equal(got.Sure, l) || len(got.Maybe) != 0 || !slices.Equal(got.Store.List, l) {
		t.Errorf("behind a start that was cut short and another the trial is %s", brief(got))
	}
}

// What is asked of a trial that is up, or isn't, does nothing with the others.
func TestStepsThatNeedUpOrDown(t *testing.T) {
	for _, given := range someTrials() {
		for _, s := range someSteps() {
			if given.Up && s.Kind == impl.TrStart || !given.Up && slices.Contains([]int{impl.TrAdd, impl.TrTidy, impl.TrRoom}, s.Kind) {
				wantStay(t, "a step that can't be done", given, s)
			}
		}
	}
	// Nor is a store that would do looked at while the trial isn't up, nor a disk while it is.
	down := impl.Trial{Keep: 2, Size: 20, Store: someStore()}
	for _, s := range someSteps() {
		wantStay(t, "a store in a trial that isn't up", down, s)
	}
	up := impl.Trial{Up: true, Keep: 2, Size: 20, Disk: someStore().Disk}
	for _, s := range someSteps() {
		wantStay(t, "a disk in a trial that is up", up, s)
	}
}
