package tests

import (
	"bytes"
	"slices"
	"strconv"
	"testing"

	"loop.example/g00600/impl"
)

// someCuts are cuts below 0, within the steps and above every step, of each number from none to more than there can be nodes.
func someCuts(by *dice) []int {
	var out []int
	for range by.roll(impl.MaxNodes + 3) {
		cut := by.roll(12) - 2
		if by.roll(10) == 0 {
			cut = pick(by, extremes())
		}
		out = append(out, cut)
	}
	return out
}

// rolledDisk is a right disk behind a row of operations.
func rolledDisk(by *dice) impl.Disk {
	d := impl.Disk{Room: by.roll(40), Fuse: by.roll(60) - 1, Next: 1}
	if by.roll(6) == 0 {
		d = narrowDisk(1+by.roll(impl.MaxNodes), impl.MaxTurns-by.roll(6), 100)
		d.Room = 2 + by.roll(20)
	}
	for range by.roll(40) {
		next, code := impl.DiskDo(d, someOp(by, manyNames()))
		if code != 1 {
			d = next
		}
	}
	return d
}

// wantBetween asks that each content behind a crash is one of the steps from what was safe to what was seen.
func wantBetween(t *testing.T, d impl.Disk, after impl.Disk) {
	t.Helper()
	for _, n := range after.Nodes {
		was := d.Nodes[modelNode(d, n.Id)]
		steps := modelTears(was.Safe, was.Body)
		if !bytes.Equal(n.Body, n.Safe) || !slices.ContainsFunc(steps, func(b []byte) bool { return bytes.Equal(b, n.Body) }) {
			t.Fatalf("node %d is %q, %q behind a crash; it was %q, and %q was safe", n.Id, n.Body, n.Safe, was.Body, was.Safe)
		}
	}
}

// wantCalmBehind asks for what holds behind every crash.
func wantCalmBehind(t *testing.T, d impl.Disk, after impl.Disk) {
	t.Helper()
	if !impl.DiskOk(after) || !modelRight(after) {
		t.Fatalf("behind a crash of %+v the disk isn't right: %+v", d, after)
	}
	if impl.DiskUsed(after) > impl.DiskUsed(d) || len(after.Nodes) > len(d.Nodes) || after.Room != d.Room || after.Next != d.Next {
		t.Fatalf("behind a crash of %+v there is more: %+v", d, after)
	}
	if after.Fuse != -1 || len(after.Turns) != 0 || !slices.Equal(impl.DiskDir(after), after.Kept) {
		t.Fatalf("a crash of %+v leaves what isn't safe: %+v", d, after)
	}
	wantBetween(t, d, after)
}

// wantNoMore asks that nothing that a second loss of power may do changes the disk.
func wantNoMore(t *testing.T, after impl.Disk, by *dice) {
	t.Helper()
	for _, turns := range []int{-1, 0, 1, by.roll(50)} {
		for _, cuts := range [][]int{nil, {0}, {1}, {99}, someCuts(by)} {
			if again, ok := impl.DiskCrash(after, turns, cuts); !ok || !sameDisk(again, after) {
				t.Fatalf("a second crash at %d, %v makes %+v of %+v", turns, cuts, again, after)
			}
		}
	}
	if calm, ok := impl.DiskCalm(after); !ok || !sameDisk(calm, after) {
		t.Fatalf("DiskCalm makes %+v of %+v", calm, after)
	}
}

func TestP8OfCrashes(t *testing.T) {
	kinds := map[int]int{}
	for seed := range 1500 {
		by := dice(seed * 15485863)
		d := rolledDisk(&by)
		for _, turn := range d.Turns {
			kinds[turn.Kind]++
		}
		for turns := -1; turns <= len(d.Turns)+1; turns++ {
			after := wantCrash(t, d, turns, someCuts(&by))
			wantCalmBehind(t, d, after)
			if turns%5 == 0 {
				wantNoMore(t, after, &by)
			}
		}
		calm := wantCalm(t, d)
		if !impl.DiskOk(calm) || impl.DiskUsed(calm) > impl.DiskUsed(d) || !slices.Equal(impl.DiskDir(calm), impl.DiskDir(d)) {
			t.Fatalf("DiskCalm of %+v is %+v", d, calm)
		}
	}
	if kinds[impl.OpCreate] == 0 || kinds[impl.OpRename] == 0 || kinds[impl.OpRemove] == 0 {
		t.Errorf("not every kind of turn was met: %v", kinds)
	}
}

// Every turn and every cut of small disks, one for each node.
func TestP8OfEveryCrashOfSmallDisks(t *testing.T) {
	d := impl.Disk{Room: 20, Fuse: 2, Next: 4, Kept: []impl.Link{{Name: "a", Id: 2}, {Name: "b", Id: 1}}, Turns: []impl.Turn{create("c", 3), rename("c", "a"), remove("b")}}
	d.Nodes = []impl.Node{{Id: 1, Body: []byte("abx"), Safe: []byte("abcd")}, {Id: 2, Body: []byte("ab")}, {Id: 3, Body: []byte("q"), Safe: []byte("qrs")}}
	by := dice(3)
	seen := map[string]int{}
	for turns := -1; turns <= 4; turns++ {
		for first := -1; first <= 5; first++ {
			for second := -1; second <= 5; second++ {
				for third := -1; third <= 4; third++ {
					after := wantCrash(t, d, turns, []int{first, second, third})
					wantCalmBehind(t, d, after)
					for _, n := range after.Nodes {
						seen[strconv.Itoa(n.Id)+string(n.Body)]++
					}
				}
			}
		}
		wantNoMore(t, wantCrash(t, d, turns, []int{1, 2}), &by)
	}
	for _, left := range []string{"1abcd", "1abc", "1ab", "1abx", "2", "2a", "2ab", "3qrs", "3qr", "3q"} {
		if seen[left] == 0 {
			t.Errorf("%q was never left", left)
		}
		delete(seen, left)
	}
	if len(seen) != 0 {
		t.Errorf("these were left too: %v", seen)
	}
}

// What is made safe, content and directory, is there behind every crash, whatever is done to other names.
func TestP8WhatIsMadeSafeSurvives(t *testing.T) {
	others := []string{"b", "ab", "c", "temp", "z"}
	for seed := range 600 {
		by := dice(seed*32452843 + 1)
		d, _ := impl.DiskNew(60)
		content := string(someBytes(by.roll(20), uint32(seed)))
		d = doAll(t, d, opCreate("b"), opAppend("b", "other"), opCreate("hist"), opAppend("hist", "lost"), opSync("hist"), opCut("hist", 0), opAppend("hist", content))
		if by.roll(2) == 0 {
			d = doAll(t, d, opSync("hist"), opSyncDir())
		} else {
			d = doAll(t, d, opSyncDir(), opSync("hist"))
		}
		for range by.roll(30) {
			if next, code := impl.DiskDo(d, someOp(&by, others)); code != 1 {
				d = next
			}
			after, ok := impl.DiskCrash(d, by.roll(45)-1, someCuts(&by))
			if !ok {
				t.Fatalf("no crash of %+v", d)
			}
			wantBody(t, after, "hist", content)
		}
	}
}

// A content that is safe, and goes on growing, keeps at least what was safe.
func TestP8WhatGrowsKeepsWhatIsSafe(t *testing.T) {
	d, _ := impl.DiskNew(60)
	d = doAll(t, d, opCreate("hist"), opAppend("hist", "safe"), opSync("hist"), opSyncDir(), opAppend("hist", " and more"))
	for k := -1; k <= 12; k++ {
		after := wantCrash(t, d, 0, []int{k})
		wantBody(t, after, "hist", "safe and more"[:4+min(max(k, 0), 9)])
	}
	// What is synced without its directory is lost with its name, not in part.
	d, _ = impl.DiskNew(60)
	d = doAll(t, d, opCreate("hist"), opAppend("hist", "safe"), opSync("hist"))
	for k := range 6 {
		wantBody(t, wantCrash(t, d, 1, []int{k}), "hist", "safe")
		if _, ok := impl.DiskRead(wantCrash(t, d, 0, []int{k}), "hist"); ok {
			t.Error("a name that isn't safe survives a crash at no turn")
		}
	}
}

// Crashes between operations, over and over, leave a right disk that goes on.
func TestP8OfManyCrashes(t *testing.T) {
	for seed := range 150 {
		by := dice(seed * 49979687)
		d := impl.Disk{Room: by.roll(40), Fuse: -1, Next: 1}
		for range 30 {
			d, _ = impl.DiskFuse(d, by.roll(9)-1)
			var l []impl.Op
			for range by.roll(8) {
				op := someOp(&by, manyNames()[:4])
				if modelOpRight(op) {
					l = append(l, op)
				}
			}
			power := d.Fuse
			ran, done, code := wantRun(t, d, l...)
			if power >= 0 && done > power || code == 1 || !impl.DiskOk(ran) || impl.DiskUsed(ran) > ran.Room {
				t.Fatalf("with power for %d operations %d were done, code %d: %+v", power, done, code, ran)
			}
			after := wantCrash(t, ran, by.roll(12)-1, someCuts(&by))
			wantCalmBehind(t, ran, after)
			d = after
		}
	}
}

func TestP8PowerForSomeOperations(t *testing.T) {
	l := []impl.Op{opCreate("a")}
	for range impl.MaxFuse + 20 {
		l = append(l, opAppend("a", "x"))
	}
	d, _ := impl.DiskNew(impl.MaxDisk)
	for _, n := range []int{0, 1, 2, 3, 10, 999, impl.MaxFuse} {
		e, ok := impl.DiskFuse(d, n)
		if !ok {
			t.Fatalf("DiskFuse with %d is false", n)
		}
		after, done, code := impl.DiskRun(e, l)
		if done != n || code != 2 || after.Fuse != 0 || impl.DiskUsed(after) != max(n-1, 0) {
			t.Errorf("with power for %d operations %d are done, code %d, and Fuse is %d", n, done, code, after.Fuse)
		}
	}
	if _, done, code := impl.DiskRun(d, l); done != len(l) || code != 0 {
		t.Errorf("with power without end %d of %d are done, code %d", done, len(l), code)
	}
}
