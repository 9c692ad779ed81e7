package tests

import (
	"slices"
	"strconv"
	"testing"

	"loop.example/g00600/impl"
)

func TestConstantsOfTrials(t *testing.T) {
	got := []int{impl.TrAdd, impl.TrTidy, impl.TrRoom, impl.TrFuse, impl.TrCrash, impl.TrStart}
	if !slices.Equal(got, []int{1, 2, 3, 4, 5, 6}) {
		t.Errorf("the kinds of steps are %v", got)
	}
}

func trAdd(text string) impl.TrialStep { return impl.TrialStep{Kind: impl.TrAdd, Text: text} }
func trTidy() impl.TrialStep           { return impl.TrialStep{Kind: impl.TrTidy} }
func trRoom(room int) impl.TrialStep   { return impl.TrialStep{Kind: impl.TrRoom, A: room} }
func trFuse(fuse int) impl.TrialStep   { return impl.TrialStep{Kind: impl.TrFuse, A: fuse} }
func trStart() impl.TrialStep          { return impl.TrialStep{Kind: impl.TrStart} }
func trCrash(turns int, cuts ...int) impl.TrialStep {
	return impl.TrialStep{Kind: impl.TrCrash, A: turns, Cuts: cuts}
}

// upTrial uses that store; what is sure begins ahead of its list.
func upTrial(s impl.Store, maybe ...impl.Entry) impl.Trial {
	sure := s.List
	if len(sure) > 0 && sure[0].Num > 1 {
		sure = append([]impl.Entry{{Num: sure[0].Num - 1, Text: "tidied"}}, sure...)
	}
	return cloneTrial(impl.Trial{Up: true, Keep: s.Keep, Size: s.Size, Store: s, Sure: sure, Maybe: maybe})
}

// downTrial has lost its power; 2 are to be kept, and a file above 20 bytes is tidied.
func downTrial(d impl.Disk, sure []impl.Entry, maybe ...impl.Entry) impl.Trial {
	return cloneTrial(impl.Trial{Keep: 2, Size: 20, Disk: d, Sure: sure, Maybe: maybe})
}

// cutShort is what an Add without power for all of it leaves of someStore.
func cutShort() impl.Store {
	s := someStore()
	s.Disk.Fuse = 1
	s, _ = modelAdd(s, "more")
	return s
}

// someTrials are of every kind that steps can make, and of others.
func someTrials() []impl.Trial {
	l := entriesFrom(7, "ls", "make -j", "cd /")
	more := impl.Entry{Num: 10, Text: "more"}
	log := framesOf(append(cloneEntries(l), more))
	empty, _ := impl.DiskNew(100)
	fused := someStore()
	fused.Disk.Fuse = 3
	wrong := someStore()
	wrong.Len++
	both := upTrial(someStore(), more)
	both.Disk = fileDisk("hist", string(log))
	neither := downTrial(fileDisk("hist", string(log)), l, more)
	neither.Store = someStore()
	unlike := upTrial(someStore())
	unlike.Keep, unlike.Size = 99, 7
	return []impl.Trial{
		downTrial(empty, nil),
		upTrial(storeOf(50, 2, 20, nil)),
		upTrial(someStore()),
		upTrial(fused),
		upTrial(storeOf(9, 2, 20, nums(impl.MaxSeq-1, impl.MaxSeq)), more),
		upTrial(storeOf(3, 2, 20, l), more),
		upTrial(cutShort(), more),
		downTrial(cutShort().Disk, l, more),
		downTrial(fileDisk("hist", string(log)), l, more),
		downTrial(fileDisk("hist", string(log[:50])), l, more),
		downTrial(fileDisk("hist", string(log), "temp", "x"), l),
		downTrial(crowded(8, "temp"), l, more),
		downTrial(wrongDisks()[1], l, more),
		upTrial(wrong, more),
		upTrial(impl.Store{}, more),
		both, neither, unlike,
		{}, {Up: true},
	}
}

// someSteps are of every kind, some of which can't be done.
func someSteps() []impl.TrialStep {
	return []impl.TrialStep{
		trAdd("x"), trAdd("more"), trAdd(""), trTidy(), trStart(),
		trRoom(0), trRoom(43), trRoom(200), trRoom(impl.MaxDisk + 1), trFuse(-2), trFuse(-1), trFuse(0), trFuse(1), trFuse(4), trFuse(impl.MaxFuse + 1),
		trCrash(0), trCrash(0, 3), trCrash(9, 99), trCrash(-1, -5, 2), {Kind: 0}, {Kind: 7},
	}
}

// wantStep asks for the trial behind a step, as the model has it.
func wantStep(t *testing.T, what string, given impl.Trial, s impl.TrialStep) impl.Trial {
	t.Helper()
	want := modelTrial(given, s)
	got := impl.TrialDo(given, s)
	if !sameTrial(got, want) {
		t.Fatalf("%s: %s\nbehind %s is %s\nwant %s", what, brief(given), brief(s), brief(got), brief(want))
	}
	return got
}

// wantTo asks for the trial that was given, with that change alone.
func wantTo(t *testing.T, what string, given impl.Trial, s impl.TrialStep, change func(w *impl.Trial)) impl.Trial {
	t.Helper()
	want := cloneTrial(given)
	change(&want)
	got := wantStep(t, what, given, s)
	if !sameTrial(got, want) {
		t.Errorf("%s: %s\nbehind %s is %s\nwant %s", what, brief(given), brief(s), brief(got), brief(want))
	}
	return got
}

// wantStay asks that a step changes nothing.
func wantStay(t *testing.T, what string, given impl.Trial, s impl.TrialStep) {
	t.Helper()
	wantTo(t, what, given, s, func(w *impl.Trial) {})
}

func TestTrialNew(t *testing.T) {
	for _, room := range append(extremes(), 100, impl.MaxDisk-1, impl.MaxDisk, impl.MaxDisk+1) {
		for _, keep := range append(extremes(), 2, 99, impl.MaxKeep, impl.MaxKeep+1) {
			for _, size := range append(extremes(), 20, 59999, impl.MaxDisk, impl.MaxDisk+1) {
				right := room >= 0 && room <= 60000 && keep >= 1 && keep <= 100 && size >= 0 && size <= 60000
				want := impl.Trial{}
				if right {
					want = impl.Trial{Keep: keep, Size: size, Disk: impl.Disk{Room: room, Fuse: -1, Next: 1}}
				}
				got, ok := impl.TrialNew(room, keep, size)
				_, modelOk := modelTrialNew(room, keep, size)
				if ok != right || modelOk != right || !sameTrial(got, want) {
					t.Errorf("TrialNew with %d, %d, %d is %s, %v; want %s, %v", room, keep, size, brief(got), ok, brief(want), right)
				}
				if ok && !impl.TrialFair(got) {
					t.Errorf("TrialNew with %d, %d, %d isn't fair", room, keep, size)
				}
			}
		}
	}
}

// A step of none of the six kinds does nothing, whatever its fields are.
func TestStepsOfNoKind(t *testing.T) {
	for _, kind := range append(extremes(), 7, 8, 9, 1<<8+1, 1<<32+6) {
		if kind >= 1 && kind <= 6 {
			continue
		}
		for i, given := range someTrials() {
			wantStay(t, "trial "+strconv.Itoa(i), given, impl.TrialStep{Kind: kind})
			wantStay(t, "trial "+strconv.Itoa(i), given, impl.TrialStep{Kind: kind, Text: "x", A: 50, Cuts: []int{1, 2}})
		}
	}
}

// filled are the step with what its kind doesn't name filled, in several ways.
func filled(s impl.TrialStep) []impl.TrialStep {
	var out []impl.TrialStep
	for _, a := range append(extremes(), 43, 50) {
		for _, text := range []string{"", "x", string(someBytes(1001, 7))} {
			for _, cuts := range [][]int{nil, {}, {-1, 3, 99}, extremes()} {
				f := impl.TrialStep{Kind: s.Kind, Text: text, A: a, Cuts: cuts}
				if s.Kind == impl.TrAdd {
					f.Text = s.Text
				}
				if s.Kind == impl.TrRoom || s.Kind == impl.TrFuse || s.Kind == impl.TrCrash {
					f.A = s.A
				}
				if s.Kind == impl.TrCrash {
					f.Cuts = s.Cuts
				}
				out = append(out, f)
			}
		}
	}
	return out
}

func TestFieldsThatTheKindDoesNotName(t *testing.T) {
	for i, given := range someTrials() {
		for _, s := range someSteps() {
			want := wantStep(t, "trial "+strconv.Itoa(i), given, s)
			for _, f := range filled(s) {
				if got := impl.TrialDo(given, f); !sameTrial(got, want) {
					t.Fatalf("trial %d: behind %s is %s\nwant what is behind %s: %s", i, brief(f), brief(got), brief(s), brief(want))
				}
			}
		}
	}
}

// Each step of each trial, and what follows it, as the model has it.
func TestStepsOfAllTrials(t *testing.T) {
	for i, given := range someTrials() {
		for _, s := range someSteps() {
			got := wantStep(t, "trial "+strconv.Itoa(i), given, s)
			for _, next := range someSteps() {
				wantStep(t, "trial "+strconv.Itoa(i), got, next)
			}
		}
	}
}

// wantTrialRun asks for the trial behind a row of steps, for it step by step, and for it in two parts.
func wantTrialRun(t *testing.T, what string, given impl.Trial, l []impl.TrialStep) impl.Trial {
	t.Helper()
	want := modelTrialRun(given, l)
	got := impl.TrialRun(given, l)
	if !sameTrial(got, want) {
		t.Fatalf("%s: %s\nbehind %s is %s\nwant %s", what, brief(given), brief(l), brief(got), brief(want))
	}
	now := given
	for at, s := range l {
		if parts := impl.TrialRun(now, l[at:]); !sameTrial(parts, want) {
			t.Fatalf("%s: %s\nbehind %s in two parts at %d is %s\nwant %s", what, brief(given), brief(l), at, brief(parts), brief(want))
		}
		now = impl.TrialDo(now, s)
	}
	if !sameTrial(now, want) {
		t.Fatalf("%s: %s\nbehind %s step by step is %s\nwant %s", what, brief(given), brief(l), brief(now), brief(want))
	}
	return got
}

func TestTrialRunOfNothingAndOfOne(t *testing.T) {
	for i, given := range someTrials() {
		for _, l := range [][]impl.TrialStep{nil, {}} {
			if got := impl.TrialRun(given, l); !sameTrial(got, given) {
				t.Errorf("trial %d behind no step is %s; want %s", i, brief(got), brief(given))
			}
		}
		for _, s := range someSteps() {
			if got, want := impl.TrialRun(given, []impl.TrialStep{s}), impl.TrialDo(given, s); !sameTrial(got, want) {
				t.Errorf("trial %d behind a row of one step is %s; want %s", i, brief(got), brief(want))
			}
		}
	}
}

func TestTrialRunOfMany(t *testing.T) {
	d, _ := impl.TrialNew(100, 2, 30)
	l := []impl.TrialStep{trAdd("not up"), trTidy(), trRoom(50), trStart(), trAdd("a"), trAdd("bc"), trAdd("def"), trTidy(), trStart(), trAdd("last"), trFuse(1), trAdd("cut"), trAdd("dark"), trFuse(9), trCrash(0, 99), trStart(), trAdd("more")}
	got := wantTrialRun(t, "a life", d, l)
	list := entriesFrom(2, "bc", "def", "last", "cut", "more")
	log := string(framesOf(list))
	store := impl.Store{Disk: impl.Disk{Room: 100, Fuse: -1, Next: 3, Nodes: []impl.Node{left(2, log)}, Kept: []impl.Link{{Name: "hist", Id: 2}}}, Keep: 2, Size: 30, List: list, Len: len(log)}
	want := impl.Trial{Up: true, Keep: 2, Size: 30, Store: store, Sure: entriesFrom(1, "a", "bc", "def", "last", "cut", "more")}
	if !sameTrial(got, want) {
		t.Errorf("behind a life the trial is %s\nwant %s", brief(got), brief(want))
	}
	// A step that does nothing doesn't end the row, and the order counts.
	torn := slices.Clone(l)
	torn[14] = trCrash(0, 3)
	got = wantTrialRun(t, "a life without the entry", d, torn)
	if !slices.Equal(got.Sure, entriesFrom(1, "a", "bc", "def", "last", "more")) || !slices.Equal(got.Store.List, got.Sure[1:]) {
		t.Errorf("behind a life without the entry the trial is %s", brief(got))
	}
	slices.Reverse(l)
	if got := wantTrialRun(t, "a life backwards", d, l); got.Up || len(got.Sure) != 0 || got.Disk.Fuse != 0 || got.Disk.Next != 2 {
		t.Errorf("behind a life backwards the trial is %s", brief(got))
	}
}

func TestTrialRunOfAllTrials(t *testing.T) {
	for i, given := range someTrials() {
		by := dice(i*32452843 + 5)
		for range 20 {
			var l []impl.TrialStep
			for range by.roll(12) {
				l = append(l, pick(&by, someSteps()))
			}
			wantTrialRun(t, "trial "+strconv.Itoa(i), given, l)
		}
	}
}

func wantTrialFair(t *testing.T, what string, given impl.Trial, want bool) {
	t.Helper()
	if modelFair(given) != want {
		t.Fatalf("%s: the test itself is wrong: %s", what, brief(given))
	}
	if got := impl.TrialFair(given); got != want {
		t.Errorf("%s: TrialFair of %s is %v", what, brief(given), got)
	}
}

// wantFairOf asks TrialFair of an up trial, and that every one that isn't up is fair.
func wantFairOf(t *testing.T, what string, keep int, sure []impl.Entry, list []impl.Entry, want bool) {
	t.Helper()
	given := impl.Trial{Up: true, Keep: keep, Sure: sure}
	given.Store.List = list
	// Neither the Keep of the store nor what else it holds is asked for.
	for _, other := range []int{0, 1, keep, 100} {
		given.Store.Keep = other
		wantTrialFair(t, what, given, want)
	}
	given.Up = false
	wantTrialFair(t, what+", not up", given, true)
}

func TestTrialFair(t *testing.T) {
	sure := entriesFrom(3, "a", "b", "c", "d")
	for keep := 1; keep <= 6; keep++ {
		for n := range 5 {
			wantFairOf(t, "the last "+strconv.Itoa(n), keep, sure, sure[4-n:], n == 4 || n >= keep)
		}
		for n := 1; n < 4; n++ {
			wantFairOf(t, "the first "+strconv.Itoa(n), keep, sure, sure[:n], false)
		}
		wantFairOf(t, "nothing at all", keep, nil, nil, true)
		wantFairOf(t, "nothing at all, not nil", keep, []impl.Entry{}, nil, true)
		wantFairOf(t, "longer than Sure", keep, sure, entriesFrom(2, "z", "a", "b", "c", "d"), false)
		wantFairOf(t, "longer than Sure at the end", keep, sure, entriesFrom(3, "a", "b", "c", "d", "e"), false)
		wantFairOf(t, "nothing is sure", keep, nil, sure[:1], false)
		wantFairOf(t, "another text", keep, sure, entriesFrom(5, "c", "x"), false)
		wantFairOf(t, "other Nums", keep, sure, entriesFrom(6, "c", "d"), false)
		wantFairOf(t, "another text ahead", keep, sure, entriesFrom(3, "x", "b", "c", "d"), false)
		wantFairOf(t, "from the midst", keep, sure, sure[1:3], false)
	}
	for _, keep := range extremes() {
		wantFairOf(t, "any Keep, all", keep, sure, sure, true)
		wantFairOf(t, "any Keep, the last two", keep, sure, sure[2:], keep <= 2)
		wantFairOf(t, "any Keep, none", keep, sure, nil, keep <= 0)
	}
	// Entries that aren't right are held against each other as well.
	wrong := []impl.Entry{{}, {Num: -1, Text: ""}, {Num: 1 << 62, Text: "x"}}
	wantFairOf(t, "wrong entries", 2, wrong, wrong[1:], true)
	wantFairOf(t, "wrong entries, too few", 2, wrong, wrong[2:], false)
}

func TestTrialFairOfAllTrials(t *testing.T) {
	for i, given := range someTrials() {
		want := modelFair(given)
		if got := impl.TrialFair(given); got != want {
			t.Errorf("TrialFair of trial %d is %v", i, got)
		}
	}
	for _, given := range []impl.Trial{{}, {Up: true}, {Up: true, Keep: 1}, upTrial(someStore()), upTrial(cutShort(), impl.Entry{Num: 10, Text: "more"})} {
		wantTrialFair(t, "a fair one", given, true)
	}
	// Maybe isn't sure: a list that ends with it isn't fair.
	s := storeOf(9, 2, 20, entriesFrom(7, "ls", "more"))
	given := impl.Trial{Up: true, Keep: 2, Size: 20, Store: s, Sure: s.List[:1], Maybe: s.List[1:]}
	wantTrialFair(t, "the one that was cut short", given, false)
}
