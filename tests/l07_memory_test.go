package tests

import (
	"bytes"
	"slices"
	"strconv"
	"strings"
	"testing"

	"loop.example/g00600/impl"
)

// roomyTrial tells a trial with spare room behind every list and texts of its own, and whether all of that is as it was.
func roomyTrial(given impl.Trial) (impl.Trial, func() bool) {
	store, storeLeft := roomyStore(given.Store)
	disk, diskLeft := roomyDisk(given.Disk)
	sure, sureLeft := roomyEntries(given.Sure)
	maybe, maybeLeft := roomyEntries(given.Maybe)
	out := impl.Trial{Up: given.Up, Keep: given.Keep, Size: given.Size, Store: store, Disk: disk, Sure: sure, Maybe: maybe}
	return out, func() bool { return storeLeft() && diskLeft() && sureLeft() && maybeLeft() }
}

// roomySteps tells steps with spare room behind every list and texts of their own, and whether all of that is as it was.
func roomySteps(l []impl.TrialStep) ([]impl.TrialStep, func() bool) {
	var whole []impl.TrialStep
	for _, s := range l {
		cuts := append(slices.Clone(s.Cuts), 77, 78)
		whole = append(whole, impl.TrialStep{Kind: s.Kind, Text: strings.Clone(s.Text), A: s.A, Cuts: cuts[:len(s.Cuts)]})
	}
	whole = append(whole, trAdd("behind"), trStart())
	return whole[:len(l)], func() bool {
		for i, s := range l {
			w := whole[i]
			if w.Kind != s.Kind || w.Text != s.Text || w.A != s.A || !slices.Equal(w.Cuts[:len(s.Cuts)+2], append(slices.Clone(s.Cuts), 77, 78)) {
				return false
			}
		}
		return whole[len(l)].Text == "behind" && whole[len(l)+1].Kind == impl.TrStart
	}
}

func spoilTrial(given impl.Trial) {
	spoilStore(given.Store)
	spoilDisk(given.Disk)
	spoilEntries(given.Sure)
	spoilEntries(given.Maybe)
}

// textsOfTrial are all texts in a trial, those of each list for itself.
func textsOfTrial(given impl.Trial) [][]string {
	out := [][]string{namesOf(given.Store.Disk), namesOf(given.Disk)}
	for _, l := range [][]impl.Entry{given.Store.List, given.Sure, given.Maybe} {
		var texts []string
		for _, e := range l {
			texts = append(texts, e.Text)
		}
		out = append(out, texts)
	}
	return out
}

// wantTextsApart asks that no text of the answer lies in one that was given, nor one of a list in another list's.
func wantTextsApart(t *testing.T, what string, out impl.Trial, given []string) {
	t.Helper()
	lists := textsOfTrial(out)
	for i, l := range lists {
		others := given
		for _, other := range lists[i+1:] {
			others = append(others[:len(others):len(others)], other...)
		}
		for _, told := range l {
			if slices.ContainsFunc(others, func(g string) bool { return textsMeet(told, g) }) {
				t.Errorf("%s: the text %q lies in another's memory", what, told)
			}
		}
	}
}

// wantContentsApart overwrites each content of an answer, one at a time; the others must stay.
func wantContentsApart(t *testing.T, what string, out impl.Trial) {
	t.Helper()
	var all [][]byte
	for _, n := range append(slices.Clone(out.Store.Disk.Nodes), out.Disk.Nodes...) {
		all = append(all, n.Body, n.Safe)
	}
	for i := range all {
		before := bytes.Clone(all[i])
		others := bytes.Join(slices.Delete(slices.Clone(all), i, i+1), nil)
		spoil(all[i])
		if !bytes.Equal(bytes.Join(slices.Delete(slices.Clone(all), i, i+1), nil), others) {
			t.Errorf("%s: two contents of one answer share memory", what)
		}
		copy(all[i], before)
	}
}

// wantListsApart overwrites each list of entries of an answer, one at a time; the others must stay.
func wantListsApart(t *testing.T, what string, out impl.Trial) {
	t.Helper()
	all := [][]impl.Entry{out.Store.List, out.Sure, out.Maybe}
	for i := range all {
		before := cloneEntries(all[i])
		others := cloneEntries(slices.Concat(slices.Delete(slices.Clone(all), i, i+1)...))
		spoilEntries(all[i])
		if !slices.Equal(slices.Concat(slices.Delete(slices.Clone(all), i, i+1)...), others) {
			t.Errorf("%s: two lists of one answer share memory", what)
		}
		copy(all[i], before)
	}
}

// wantNewMemory asks that a call leaves its arguments, and that its answer is memory of its own, list by list.
func wantNewMemory(t *testing.T, what string, given impl.Trial, l []impl.TrialStep, call func(given impl.Trial, l []impl.TrialStep) impl.Trial) {
	t.Helper()
	arg, left := roomyTrial(given)
	steps, stepsLeft := roomySteps(l)
	out := call(arg, steps)
	if !left() || !stepsLeft() {
		t.Fatalf("%s changes its argument", what)
	}
	texts := slices.Concat(textsOfTrial(arg)...)
	for _, s := range steps {
		texts = append(texts, s.Text)
	}
	wantTextsApart(t, what, out, texts)
	want := cloneTrial(out)
	again := call(arg, steps)
	if !sameTrial(again, want) {
		t.Fatalf("%s answers something else the second time", what)
	}
	wantContentsApart(t, what, again)
	wantListsApart(t, what, again)
	spoilTrial(again)
	if !left() || !stepsLeft() || !sameTrial(out, want) {
		t.Fatalf("%s: an answer shares memory with an argument or with another answer", what)
	}
	spoilTrial(arg)
	for i := range steps {
		clear(steps[i].Cuts)
	}
	clear(steps)
	if !sameTrial(out, want) {
		t.Fatalf("%s: a change of the argument changes the answer", what)
	}
}

func callDo(given impl.Trial, l []impl.TrialStep) impl.Trial { return impl.TrialDo(given, l[0]) }

func TestStepsLeaveTheirArguments(t *testing.T) {
	for i, given := range someTrials() {
		for _, s := range someSteps() {
			what := "trial " + strconv.Itoa(i) + ", " + brief(s)
			wantNewMemory(t, what, given, []impl.TrialStep{s}, callDo)
			wantNewMemory(t, what, given, []impl.TrialStep{s}, impl.TrialRun)
		}
	}
	for _, c := range storeCalls() {
		for _, s := range someSteps() {
			wantNewMemory(t, c.what+", up", upTrial(c.give, nums(10)...), []impl.TrialStep{s}, callDo)
			wantNewMemory(t, c.what+", not up", downTrial(c.give.Disk, c.give.List, nums(9)...), []impl.TrialStep{s}, callDo)
		}
	}
}

func TestRunsLeaveTheirArguments(t *testing.T) {
	for i, given := range someTrials() {
		what := "trial " + strconv.Itoa(i)
		wantNewMemory(t, what, given, nil, impl.TrialRun)
		wantNewMemory(t, what, given, []impl.TrialStep{trStart(), trAdd("one"), trAdd("two")}, impl.TrialRun)
		wantNewMemory(t, what, given, []impl.TrialStep{trAdd("one"), trFuse(1), trAdd("two")}, impl.TrialRun)
		by := dice(i*49979687 + 3)
		for range 10 {
			var l []impl.TrialStep
			for range by.roll(12) {
				l = append(l, pick(&by, someSteps()))
			}
			wantNewMemory(t, what, given, l, impl.TrialRun)
		}
	}
}

func TestWhatIsAskedOfATrialLeavesIt(t *testing.T) {
	for i, given := range someTrials() {
		arg, left := roomyTrial(given)
		first := impl.TrialFair(arg)
		if impl.TrialFair(arg) != first || !left() {
			t.Errorf("TrialFair changes trial %d, or answers something else the second time", i)
		}
	}
}

// Nothing is kept from call to call: a new trial isn't touched by what is done with another.
func TestTrialNewIsNewMemory(t *testing.T) {
	first, _ := impl.TrialNew(100, 2, 20)
	want := cloneTrial(first)
	second, _ := impl.TrialNew(100, 2, 20)
	impl.TrialRun(second, []impl.TrialStep{trStart(), trAdd("x"), trCrash(0)})
	spoilTrial(second)
	third, _ := impl.TrialNew(100, 2, 20)
	if !sameTrial(first, want) || !sameTrial(third, want) {
		t.Errorf("TrialNew is %s, then %s", brief(first), brief(third))
	}
}

// An empty list and none are the same.
func TestTrialsOfEmptyLists(t *testing.T) {
	empty, _ := impl.DiskNew(50)
	bare := impl.Trial{Keep: 1, Disk: empty}
	full := impl.Trial{Keep: 1, Disk: empty, Sure: []impl.Entry{}, Maybe: []impl.Entry{}}
	full.Disk.Nodes, full.Disk.Kept, full.Disk.Turns, full.Store.List = []impl.Node{}, []impl.Link{}, []impl.Turn{}, []impl.Entry{}
	for _, l := range [][]impl.TrialStep{nil, {trStart()}, {trStart(), trTidy()}, {trFuse(0), trStart()}, {trStart(), trAdd("x")}, {trCrash(0)}, {trStart(), trCrash(0, []int{}...), trStart()}} {
		if a, b := impl.TrialRun(bare, l), impl.TrialRun(full, l); !sameTrial(a, b) || !impl.TrialFair(a) || !impl.TrialFair(b) {
			t.Errorf("behind %s without lists the trial is %s, with empty ones %s", brief(l), brief(a), brief(b))
		}
	}
}
