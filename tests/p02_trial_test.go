package tests

import (
	"slices"
	"strconv"
	"testing"

	"loop.example/g00600/impl"
)

// witness sees a trial that began with TrialNew, and keeps a ledger of its own: what the store tells of each adding, and what is found at each start.
type witness struct {
	ledger
	met map[string]int
}

// see asks what holds behind every step, and counts what was met.
func (w *witness) see(t *testing.T, before impl.Trial, s impl.TrialStep, after impl.Trial) {
	t.Helper()
	switch {
	case s.Kind == impl.TrAdd && before.Up:
		w.seeAdd(before, s.Text)
	case s.Kind == impl.TrTidy && before.Up:
		_, code := impl.Tidy(before.Store)
		w.met["TrTidy with code "+strconv.Itoa(code)]++
	case s.Kind == impl.TrCrash:
		w.met["TrCrash, up "+strconv.FormatBool(before.Up)]++
	case s.Kind == impl.TrStart && !before.Up:
		w.seeStart(t, before)
	}
	if !impl.TrialFair(after) || !modelFair(after) {
		t.Fatalf("behind %s a trial isn't fair: %s\nit was %s", brief(s), brief(after), brief(before))
	}
	if after.Up && (!impl.StoreOk(after.Store) || !w.fair(after.Store.List)) {
		t.Fatalf("behind %s the store is %s, where %s was kept", brief(s), brief(after.Store), brief(w.sure))
	}
	if !slices.Equal(after.Sure, w.sure) || !slices.Equal(after.Maybe, w.maybe) {
		t.Fatalf("behind %s %s is sure and %s may be\nwant %s and %s", brief(s), brief(after.Sure), brief(after.Maybe), brief(w.sure), brief(w.maybe))
	}
}

func (w *witness) seeAdd(before impl.Trial, text string) {
	e := impl.Entry{Num: impl.NextNum(before.Store), Text: text}
	dark := before.Store.Disk.Fuse == 0
	_, code := impl.Add(before.Store, text)
	what := "TrAdd with code " + strconv.Itoa(code)
	switch {
	case code == 0:
		w.sure = append(w.sure[:len(w.sure):len(w.sure)], e)
		w.maybe = nil
	case code == 2 && dark:
		what += " in the dark"
	case code == 2:
		w.maybe = []impl.Entry{e}
	case code != 1:
		w.maybe = nil
	}
	w.met[what]++
}

func (w *witness) seeStart(t *testing.T, before impl.Trial) {
	t.Helper()
	list := impl.Found(before.Disk)
	_, code := impl.Open(before.Disk, before.Keep, before.Size)
	what := "TrStart with code " + strconv.Itoa(code)
	if code == 0 && len(w.maybe) == 1 {
		known := len(w.sure)
		if !w.take(list) {
			t.Fatalf("a start finds %s, where %s was kept", brief(list), brief(w.sure))
		}
		what += ", found " + strconv.FormatBool(len(w.sure) > known)
	}
	w.met[what]++
}

// wantMet asks that each of these was met so many times.
func wantMet(t *testing.T, met map[string]int, least int, all ...string) {
	t.Helper()
	for _, what := range all {
		if met[what] < least {
			t.Errorf("%s was met %d times alone", what, met[what])
		}
	}
}

// rolledStep is likely to be one that can be done, and at times has its other fields filled.
func rolledStep(by *dice, now impl.Trial) impl.TrialStep {
	used := impl.DiskUsed(now.Store.Disk)
	text := string(someBytes(1+by.roll(25), uint32(by.roll(1<<20))))
	s := trAdd(text)
	switch n := by.roll(30); {
	case !now.Up && n < 18:
		s = trStart()
	case n < 12:
	case n < 18:
		s = trTidy()
	case n < 21:
		s = trRoom(used + by.roll(150))
	case n < 24:
		s = trFuse(by.roll(9) - 1)
	case n < 27:
		s = trCrash(by.roll(5)-1, someLongCuts(by)...)
	case n < 28:
		s = trStart()
	case n < 29:
		s = impl.TrialStep{Kind: by.roll(12) - 2, A: by.roll(100) - 2, Cuts: someCuts(by)}
	default:
		s = trAdd("")
	}
	if by.roll(5) == 0 && s.Kind != impl.TrAdd {
		s.Text = text
	}
	return s
}

// Whatever is done, over and over: behind each step a trial that began with TrialNew is fair.
func TestP2OfLongTrials(t *testing.T) {
	met := map[string]int{}
	for seed := range 400 {
		by := dice(seed * 122949823)
		now, ok := impl.TrialNew(50+by.roll(400), 1+by.roll(5), pick(&by, []int{0, 20, 60, 200}))
		if !ok {
			t.Fatal("the test itself is wrong")
		}
		first := now
		w := witness{ledger: ledger{keep: now.Keep}, met: met}
		var l []impl.TrialStep
		for range 120 {
			s := rolledStep(&by, now)
			l = append(l, s)
			next := wantStep(t, "a rolled trial", now, s)
			w.see(t, now, s, next)
			if next.Up && !now.Up {
				lit := cloneStore(next.Store)
				lit.Disk.Fuse = -1
				wantSameAgain(t, lit, &by)
			}
			now = next
		}
		if got := impl.TrialRun(first, l); !sameTrial(got, now) {
			t.Fatalf("a run is %s\nwant %s", brief(got), brief(now))
		}
	}
	wantMet(t, met, 50, "TrAdd with code 0", "TrAdd with code 1", "TrAdd with code 2", "TrAdd with code 2 in the dark", "TrAdd with code 5", "TrTidy with code 0", "TrTidy with code 2", "TrTidy with code 5")
	wantMet(t, met, 50, "TrCrash, up true", "TrCrash, up false", "TrStart with code 0", "TrStart with code 0, found true", "TrStart with code 0, found false", "TrStart with code 2")
}

// Every row of some steps, from a trial that has entries to tidy.
func TestP2OfEveryShortTrial(t *testing.T) {
	steps := []impl.TrialStep{trAdd("ab"), trTidy(), trRoom(40), trRoom(90), trFuse(1), trFuse(4), trCrash(0), trCrash(1, 5), trCrash(9, 99), trStart()}
	now, _ := impl.TrialNew(60, 2, 20)
	w := witness{ledger: ledger{keep: 2}, met: map[string]int{}}
	for _, s := range []impl.TrialStep{trStart(), trAdd("a"), trAdd("b"), trAdd("c")} {
		next := impl.TrialDo(now, s)
		w.see(t, now, s, next)
		now = next
	}
	wantFairBehind(t, w, now, steps, 5)
	wantMet(t, w.met, 20, "TrAdd with code 0", "TrAdd with code 2", "TrAdd with code 2 in the dark", "TrAdd with code 5", "TrTidy with code 0", "TrTidy with code 2", "TrTidy with code 5")
	wantMet(t, w.met, 20, "TrCrash, up true", "TrCrash, up false", "TrStart with code 0", "TrStart with code 0, found true", "TrStart with code 0, found false", "TrStart with code 2")
}

// wantFairBehind goes through every row of that many steps at most; each has a ledger of its own.
func wantFairBehind(t *testing.T, w witness, now impl.Trial, steps []impl.TrialStep, most int) {
	t.Helper()
	if most == 0 {
		return
	}
	for _, s := range steps {
		next := impl.TrialDo(now, s)
		told := w
		told.see(t, now, s, next)
		wantFairBehind(t, told, next, steps, most-1)
	}
}

// wantPowerAt asks that, with power that ends ahead of each operation of a step and at every cut of the crash behind it, the next start is fair, and finds what the one behind it finds.
func wantPowerAt(t *testing.T, what string, given impl.Trial, s impl.TrialStep) {
	t.Helper()
	for fuse := -1; fuse <= 8; fuse++ {
		cut := impl.TrialRun(given, []impl.TrialStep{trFuse(fuse), s})
		told := ledger{sure: cut.Sure, maybe: cut.Maybe, keep: given.Keep}
		for turns := range 4 {
			for k := range 60 {
				up := impl.TrialRun(cut, []impl.TrialStep{trCrash(turns, k, 60-k), trStart()})
				now := ledger{sure: slices.Clone(told.sure), maybe: told.maybe, keep: told.keep}
				if !up.Up || !impl.TrialFair(up) || !now.take(up.Store.List) || !slices.Equal(now.sure, up.Sure) || len(up.Maybe) != 0 {
					t.Fatalf("%s with power for %d operations, and behind a crash, is %s\nwhere %s was kept, and %s perhaps", what, fuse, brief(up), brief(told.sure), brief(told.maybe))
				}
				again := impl.TrialRun(up, []impl.TrialStep{trCrash(turns, k), trFuse(k % 4), trStart(), trCrash(1, k), trStart()})
				if !sameStore(again.Store, up.Store) || !slices.Equal(again.Sure, up.Sure) {
					t.Fatalf("%s: starting twice finds %s, where once finds %s", what, brief(again), brief(up))
				}
			}
		}
	}
}

func TestP2OfPowerThatEndsAnywhere(t *testing.T) {
	for _, room := range []int{45, 60, 70, 200} {
		bare, _ := impl.TrialNew(room, 1, 10)
		up := impl.TrialRun(bare, []impl.TrialStep{trStart(), trAdd("a"), trAdd("bc"), trAdd("def")})
		if !up.Up || len(up.Sure) != 3 {
			t.Fatal("the test itself is wrong")
		}
		wantPowerAt(t, "TrAdd", up, trAdd("some more"))
		wantPowerAt(t, "TrTidy", up, trTidy())
		wantPowerAt(t, "TrAdd behind TrTidy", impl.TrialDo(up, trTidy()), trAdd("some more"))
		wantPowerAt(t, "TrStart", impl.TrialRun(up, []impl.TrialStep{trFuse(1), trAdd("some more"), trCrash(0, 9)}), trStart())
		wantPowerAt(t, "TrStart of a new trial", bare, trStart())
	}
}
