package tests

import (
	"bytes"
	"slices"

	"loop.example/g00600/impl"
)

// The model is chapter 5 in lists: every step of a tear is written out, one behind the other.

// modelTears are all contents on the way from safe to body, the first being safe and the last body.
func modelTears(safe []byte, body []byte) [][]byte {
	now := bytes.Clone(safe)
	out := [][]byte{bytes.Clone(now)}
	for !bytes.HasPrefix(body, now) {
		now = now[:len(now)-1]
		out = append(out, bytes.Clone(now))
	}
	for len(now) < len(body) {
		now = append(now, body[len(now)])
		out = append(out, bytes.Clone(now))
	}
	return out
}

func modelTear(safe []byte, body []byte, k int) []byte {
	all := modelTears(safe, body)
	if k < 0 {
		return all[0]
	}
	if k >= len(all) {
		return all[len(all)-1]
	}
	return all[k]
}

// modelDirAt is the directory behind the first turns of a right disk.
func modelDirAt(d impl.Disk, turns int) []impl.Link {
	dir := slices.Clone(d.Kept)
	for i, turn := range d.Turns {
		if i < turns {
			dir, _ = modelTurn(dir, turn)
		}
	}
	return dir
}

func modelCrash(d impl.Disk, turns int, cuts []int) (impl.Disk, bool) {
	if !modelRight(d) {
		return impl.Disk{}, false
	}
	out := modelSyncDir(cloneDisk(d), modelDirAt(d, turns))
	out.Fuse = -1
	next := 0
	for i := range out.Nodes {
		k := 0
		if len(cuts) > 0 {
			k = cuts[next]
			next++
			if next == len(cuts) {
				next = 0
			}
		}
		left := modelTear(out.Nodes[i].Safe, out.Nodes[i].Body, k)
		out.Nodes[i].Body, out.Nodes[i].Safe = left, left
	}
	return out, true
}

func modelCalm(d impl.Disk) (impl.Disk, bool) {
	if !modelRight(d) {
		return impl.Disk{}, false
	}
	out := modelSyncDir(cloneDisk(d), modelDirAt(d, len(d.Turns)))
	for i := range out.Nodes {
		out.Nodes[i].Safe = out.Nodes[i].Body
	}
	return out, true
}

func modelRun(d impl.Disk, l []impl.Op) (impl.Disk, int, int) {
	if !modelRight(d) {
		return impl.Disk{}, 0, 1
	}
	if len(l) == 0 {
		return d, 0, 0
	}
	next, code := modelDo(d, l[0])
	if code != 0 {
		return next, 0, code
	}
	out, done, code := modelRun(next, l[1:])
	return out, done + 1, code
}
