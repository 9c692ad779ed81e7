package tests

import (
	"slices"

	"loop.example/g00600/impl"
)

// The model is chapter 8 on the models of the chapters ahead: each step tells a trial of its own, and looks at nothing but what the step names.

func modelTrialNew(room int, keep int, size int) (impl.Trial, bool) {
	if room < 0 || room > 60000 || keep < 1 || keep > 100 || size < 0 || size > 60000 {
		return impl.Trial{}, false
	}
	return impl.Trial{Keep: keep, Size: size, Disk: impl.Disk{Room: room, Fuse: -1, Next: 1}}, true
}

func modelTrial(t impl.Trial, s impl.TrialStep) impl.Trial {
	t = cloneTrial(t)
	switch {
	case s.Kind == 1 && t.Up:
		return modelTrAdd(t, s.Text)
	case s.Kind == 2 && t.Up:
		return modelTrTidy(t)
	case s.Kind == 3 && t.Up:
		return modelTrRoom(t, s.A)
	case s.Kind == 4 && t.Up:
		t.Store.Disk = modelTrFuse(t.Store.Disk, s.A)
	case s.Kind == 4:
		t.Disk = modelTrFuse(t.Disk, s.A)
	case s.Kind == 5 && t.Up:
		return modelTrCrash(t, t.Store.Disk, s)
	case s.Kind == 5:
		return modelTrCrash(t, t.Disk, s)
	case s.Kind == 6 && !t.Up:
		return modelTrStart(t)
	}
	return t
}

func modelTrAdd(t impl.Trial, text string) impl.Trial {
	fuse, num := t.Store.Disk.Fuse, modelNext(t.Store)
	store, code := modelAdd(t.Store, text)
	if code == 1 {
		return t
	}
	t.Store = store
	if code == 0 {
		t.Sure = append(t.Sure, store.List[len(store.List)-1])
	}
	if code != 2 {
		t.Maybe = nil
	}
	if code == 2 && fuse != 0 {
		t.Maybe = []impl.Entry{{Num: num, Text: text}}
	}
	return t
}

func modelTrTidy(t impl.Trial) impl.Trial {
	store, code := modelTidy(t.Store)
	if code != 1 {
		t.Store = store
	}
	return t
}

func modelTrRoom(t impl.Trial, room int) impl.Trial {
	store := cloneStore(t.Store)
	store.Disk.Room = room
	if modelRight(t.Store.Disk) && modelRight(store.Disk) && modelStore(store) {
		t.Store = store
	}
	return t
}

func modelTrFuse(d impl.Disk, fuse int) impl.Disk {
	if modelRight(d) && d.Fuse != 0 && fuse >= -1 && fuse <= 1000 {
		d.Fuse = fuse
	}
	return d
}

func modelTrCrash(t impl.Trial, d impl.Disk, s impl.TrialStep) impl.Trial {
	left, ok := modelCrash(d, s.A, s.Cuts)
	if !ok {
		return t
	}
	return impl.Trial{Keep: t.Keep, Size: t.Size, Disk: left, Sure: t.Sure, Maybe: t.Maybe}
}

func modelTrStart(t impl.Trial) impl.Trial {
	store, code := modelOpen(t.Disk, t.Keep, t.Size)
	if code == 1 {
		return t
	}
	if code != 0 {
		t.Disk = store.Disk
		return t
	}
	sure := t.Sure
	if n := len(store.List); n > 0 && len(t.Maybe) == 1 && t.Maybe[0] == store.List[n-1] {
		sure = append(sure, t.Maybe[0])
	}
	return impl.Trial{Up: true, Keep: t.Keep, Size: t.Size, Store: store, Sure: sure}
}

func modelTrialRun(t impl.Trial, l []impl.TrialStep) impl.Trial {
	if len(l) == 0 {
		return t
	}
	return modelTrialRun(modelTrial(t, l[0]), l[1:])
}

// modelFair takes the first of Sure away, again and again, until there are as many as in List.
func modelFair(t impl.Trial) bool {
	sure := t.Sure
	for len(sure) > len(t.Store.List) {
		if len(t.Store.List) < t.Keep && t.Up {
			return false
		}
		sure = sure[1:]
	}
	return !t.Up || slices.Equal(sure, t.Store.List)
}

func cloneTrial(t impl.Trial) impl.Trial {
	return impl.Trial{Up: t.Up, Keep: t.Keep, Size: t.Size, Store: cloneStore(t.Store), Disk: cloneDisk(t.Disk), Sure: cloneEntries(t.Sure), Maybe: cloneEntries(t.Maybe)}
}

func sameTrial(a impl.Trial, b impl.Trial) bool {
	return a.Up == b.Up && a.Keep == b.Keep && a.Size == b.Size && sameStore(a.Store, b.Store) && sameDisk(a.Disk, b.Disk) && slices.Equal(a.Sure, b.Sure) && slices.Equal(a.Maybe, b.Maybe)
}
