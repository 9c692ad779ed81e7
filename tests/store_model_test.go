package tests

import (
	"bytes"
	"fmt"
	"slices"

	"loop.example/g00600/impl"
)

// The model is chapter 7 on the model's disk, one operation at a time, each asked for its code where it stands; a code is a number from one end to the other.

func modelFile(d impl.Disk, name string) ([]byte, bool) {
	dir, right := modelDir(d)
	at := modelLinked(dir, name)
	if !right || !modelRight(d) || at == modelAbsent {
		return nil, false
	}
	return d.Nodes[modelNode(d, dir[at].Id)].Body, true
}

func modelStore(s impl.Store) bool {
	if !modelRight(s.Disk) || s.Keep < 1 || s.Keep > 100 || s.Size < 0 || s.Size > 60000 || !modelEntries(s.List) {
		return false
	}
	if s.Disk.Fuse == 0 {
		return true
	}
	body, there := modelFile(s.Disk, "hist")
	_, temp := modelFile(s.Disk, "temp")
	return there && !temp && s.Len == len(body) && bytes.Equal(body, framesOf(s.List))
}

func modelOpen(d impl.Disk, keep int, size int) (impl.Store, int) {
	if !modelRight(d) || keep < 1 || keep > 100 || size < 0 || size > 60000 {
		return impl.Store{}, 1
	}
	ended := func(d impl.Disk, code int) (impl.Store, int) {
		return impl.Store{Disk: d, Keep: keep, Size: size}, code
	}
	d, code := modelDo(d, opSyncDir())
	if code != 0 {
		return ended(d, code)
	}
	if _, there := modelFile(d, "temp"); there {
		if d, code = modelDo(d, opRemove("temp")); code != 0 {
			return ended(d, code)
		}
	}
	if _, there := modelFile(d, "hist"); !there {
		if d, code = modelDo(d, opCreate("hist")); code != 0 {
			return ended(d, code)
		}
	}
	body, _ := modelFile(d, "hist")
	list, end := modelScan(body)
	if end != len(body) {
		if d, code = modelDo(d, opCut("hist", end)); code != 0 {
			return ended(d, code)
		}
	}
	if d, code = modelDo(d, opSync("hist")); code != 0 {
		return ended(d, code)
	}
	if d, code = modelDo(d, opSyncDir()); code != 0 {
		return ended(d, code)
	}
	return impl.Store{Disk: d, Keep: keep, Size: size, List: list, Len: end}, 0
}

func modelNext(s impl.Store) int {
	next := 1
	for _, e := range s.List {
		next = e.Num + 1
		if e.Num < 1 || e.Num > 1000000000 {
			next = 0
		}
	}
	return next
}

func modelAdd(s impl.Store, text string) (impl.Store, int) {
	if !modelStore(s) || text == "" || len(text) > 1000 {
		return impl.Store{}, 1
	}
	s = cloneStore(s)
	e := impl.Entry{Num: modelNext(s), Text: text}
	frame, fits := modelFrame(e)
	if !fits {
		return s, 3
	}
	code := 0
	s.Disk, code = modelDo(s.Disk, opAppend("hist", string(frame)))
	if code == 5 {
		if s.Disk, code = modelDo(s.Disk, opCut("hist", s.Len)); code == 0 {
			s.Disk, code = modelDo(s.Disk, opSync("hist"))
		}
		if code == 0 {
			code = 5
		}
		return s, code
	}
	if code == 0 {
		s.Disk, code = modelDo(s.Disk, opSync("hist"))
	}
	if code == 0 {
		s.List, s.Len = append(s.List, e), s.Len+len(frame)
	}
	return s, code
}

func modelTidy(s impl.Store) (impl.Store, int) {
	if !modelStore(s) {
		return impl.Store{}, 1
	}
	s = cloneStore(s)
	if s.Len <= s.Size || len(s.List) <= s.Keep {
		return s, 0
	}
	l := modelLast(s.List, s.Keep)
	log := string(framesOf(l))
	code := 0
	for _, op := range []impl.Op{opSyncDir(), opCreate("temp"), opAppend("temp", log), opSync("temp"), opRename("temp", "hist"), opSyncDir()} {
		if s.Disk, code = modelDo(s.Disk, op); code != 0 {
			break
		}
	}
	if code == 5 {
		for _, op := range []impl.Op{opRemove("temp"), opSyncDir()} {
			if s.Disk, code = modelDo(s.Disk, op); code != 0 {
				return s, code
			}
		}
		return s, 5
	}
	if code == 0 {
		s.List, s.Len = l, len(log)
	}
	return s, code
}

func modelFound(d impl.Disk) []impl.Entry {
	body, _ := modelFile(d, "hist")
	out, _ := modelScan(body)
	return out
}

func cloneStore(s impl.Store) impl.Store {
	return impl.Store{Disk: cloneDisk(s.Disk), Keep: s.Keep, Size: s.Size, List: cloneEntries(s.List), Len: s.Len}
}

func sameStore(a impl.Store, b impl.Store) bool {
	return sameDisk(a.Disk, b.Disk) && a.Keep == b.Keep && a.Size == b.Size && slices.Equal(a.List, b.List) && a.Len == b.Len
}

// brief tells the beginning and the end of a value, so that a long file doesn't hide what failed.
func brief(v any) string {
	const most = 700
	s := fmt.Sprintf("%#v", v)
	if len(s) <= most {
		return s
	}
	return s[:most/2] + " .. " + s[len(s)-most/2:]
}
