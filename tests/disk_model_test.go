package tests

import (
	"bytes"
	"slices"
	"strings"

	"loop.example/g00600/impl"
)

// The model is chapter 4 in lists alone, gone through from the front: slow, and with no map and no sorting in it.

const modelAbsent = -1

func modelName(s string) bool {
	for _, c := range []byte(s) {
		if strings.IndexByte("abcdefghijklmnopqrstuvwxyz", c) < 0 {
			return false
		}
	}
	return len(s) > 0 && len(s) < 13
}

func modelLinked(dir []impl.Link, name string) int {
	for i, k := range dir {
		if k.Name == name {
			return i
		}
	}
	return modelAbsent
}

func modelUnlink(dir []impl.Link, name string) []impl.Link {
	var out []impl.Link
	for _, k := range dir {
		if k.Name != name {
			out = append(out, k)
		}
	}
	return out
}

func modelLink(dir []impl.Link, name string, id int) []impl.Link {
	var less, more []impl.Link
	for _, k := range modelUnlink(dir, name) {
		if k.Name < name {
			less = append(less, k)
		} else {
			more = append(more, k)
		}
	}
	return append(append(less, impl.Link{Name: name, Id: id}), more...)
}

// modelTurn tells the directory behind a turn, and whether the turn fitted.
func modelTurn(dir []impl.Link, t impl.Turn) ([]impl.Link, bool) {
	at := modelLinked(dir, t.Name)
	switch t.Kind {
	case impl.OpCreate:
		if at != modelAbsent || t.To != "" || !modelName(t.Name) {
			return nil, false
		}
		return modelLink(dir, t.Name, t.Id), true
	case impl.OpRename:
		if at == modelAbsent || t.To == t.Name || t.Id != 0 || !modelName(t.To) {
			return nil, false
		}
		return modelLink(modelUnlink(dir, t.Name), t.To, dir[at].Id), true
	case impl.OpRemove:
		if at == modelAbsent || t.To != "" || t.Id != 0 {
			return nil, false
		}
		return modelUnlink(dir, t.Name), true
	}
	return nil, false
}

func modelDir(d impl.Disk) ([]impl.Link, bool) {
	dir := slices.Clone(d.Kept)
	for _, t := range d.Turns {
		next, ok := modelTurn(dir, t)
		if !ok {
			return nil, false
		}
		dir = next
	}
	return dir, true
}

func modelUsed(d impl.Disk) int {
	sum := 0
	for _, n := range d.Nodes {
		if len(n.Body) > len(n.Safe) {
			sum += len(n.Body)
		} else {
			sum += len(n.Safe)
		}
	}
	return sum
}

// modelIds says whether each node is linked just once by Kept or a create, and nothing else is linked.
func modelIds(d impl.Disk) bool {
	count := func(id int) int {
		n := 0
		for _, k := range d.Kept {
			if k.Id == id {
				n++
			}
		}
		for _, t := range d.Turns {
			if t.Kind == impl.OpCreate && t.Id == id {
				n++
			}
		}
		return n
	}
	links := len(d.Kept)
	for _, t := range d.Turns {
		if t.Kind == impl.OpCreate {
			links++
		}
	}
	for _, n := range d.Nodes {
		if count(n.Id) != 1 {
			return false
		}
	}
	return links == len(d.Nodes)
}

func modelRight(d impl.Disk) bool {
	if d.Room < 0 || d.Room > 60000 || d.Fuse < -1 || d.Fuse > 1000 || d.Next < 1 || d.Next > 1000000 || len(d.Nodes) > 8 || len(d.Turns) > 40 {
		return false
	}
	for i, n := range d.Nodes {
		if n.Id < 1 || n.Id > d.Next-1 || i > 0 && d.Nodes[i-1].Id >= n.Id {
			return false
		}
	}
	for i, k := range d.Kept {
		if !modelName(k.Name) || i > 0 && d.Kept[i-1].Name >= k.Name {
			return false
		}
	}
	_, ok := modelDir(d)
	return ok && modelIds(d) && modelUsed(d) <= d.Room
}

func modelOpRight(op impl.Op) bool {
	plain := op.To == "" && op.Size == 0 && len(op.Data) == 0
	switch op.Kind {
	case impl.OpCreate, impl.OpSync, impl.OpRemove:
		return modelName(op.Name) && plain
	case impl.OpAppend:
		return modelName(op.Name) && op.To == "" && op.Size == 0 && len(op.Data) <= 60000
	case impl.OpCut:
		return modelName(op.Name) && op.To == "" && len(op.Data) == 0 && 0 <= op.Size && op.Size <= 60000
	case impl.OpRename:
		return modelName(op.Name) && modelName(op.To) && op.Size == 0 && len(op.Data) == 0
	case impl.OpSyncDir:
		return op.Name == "" && plain
	}
	return false
}

func modelNode(d impl.Disk, id int) int {
	for i, n := range d.Nodes {
		if n.Id == id {
			return i
		}
	}
	return modelAbsent
}

// modelCode tells the code, but for 5, which hangs on what an append does.
func modelCode(d impl.Disk, op impl.Op) int {
	if !modelRight(d) || !modelOpRight(op) {
		return 1
	}
	if d.Fuse == 0 {
		return 2
	}
	dir, _ := modelDir(d)
	at := modelLinked(dir, op.Name)
	if op.Kind == impl.OpCreate && at != modelAbsent || op.Kind != impl.OpCreate && op.Kind != impl.OpSyncDir && at == modelAbsent {
		return 3
	}
	if op.Kind == impl.OpCreate && (len(d.Nodes) == 8 || d.Next == 1000000) {
		return 4
	}
	if (op.Kind == impl.OpCreate || op.Kind == impl.OpRename || op.Kind == impl.OpRemove) && len(d.Turns) == 40 {
		return 4
	}
	if op.Kind == impl.OpCut && op.Size > len(d.Nodes[modelNode(d, dir[at].Id)].Body) || op.Kind == impl.OpRename && op.To == op.Name {
		return 6
	}
	return 0
}

func modelDo(d impl.Disk, op impl.Op) (impl.Disk, int) {
	code := modelCode(d, op)
	if code == 1 {
		return impl.Disk{}, 1
	}
	out := cloneDisk(d)
	if code != 0 {
		return out, code
	}
	if out.Fuse > 0 {
		out.Fuse--
	}
	dir, _ := modelDir(d)
	switch op.Kind {
	case impl.OpCreate:
		out.Nodes = append(out.Nodes, impl.Node{Id: d.Next})
		out.Next = d.Next + 1
		out.Turns = append(out.Turns, impl.Turn{Kind: impl.OpCreate, Name: op.Name, Id: d.Next})
	case impl.OpRename:
		out.Turns = append(out.Turns, impl.Turn{Kind: impl.OpRename, Name: op.Name, To: op.To})
	case impl.OpRemove:
		out.Turns = append(out.Turns, impl.Turn{Kind: impl.OpRemove, Name: op.Name})
	case impl.OpSyncDir:
		return modelSyncDir(out, dir), 0
	default:
		return modelChange(out, modelNode(out, dir[modelLinked(dir, op.Name)].Id), op)
	}
	return out, 0
}

func modelSyncDir(d impl.Disk, dir []impl.Link) impl.Disk {
	var nodes []impl.Node
	for _, n := range d.Nodes {
		for _, k := range dir {
			if k.Id == n.Id {
				nodes = append(nodes, n)
			}
		}
	}
	d.Kept, d.Turns, d.Nodes = dir, nil, nodes
	return d
}

// modelChange appends byte by byte, as long as what comes is within the room.
func modelChange(d impl.Disk, at int, op impl.Op) (impl.Disk, int) {
	node := &d.Nodes[at]
	switch op.Kind {
	case impl.OpSync:
		node.Safe = bytes.Clone(node.Body)
	case impl.OpCut:
		node.Body = bytes.Clone(node.Body[:op.Size])
	case impl.OpAppend:
		for _, c := range op.Data {
			node.Body = append(node.Body, c)
			if modelUsed(d) > d.Room {
				node.Body = node.Body[:len(node.Body)-1]
				return d, 5
			}
		}
	}
	return d, 0
}

func cloneDisk(d impl.Disk) impl.Disk {
	out := d
	out.Nodes = nil
	for _, n := range d.Nodes {
		out.Nodes = append(out.Nodes, impl.Node{Id: n.Id, Body: bytes.Clone(n.Body), Safe: bytes.Clone(n.Safe)})
	}
	out.Kept = slices.Clone(d.Kept)
	out.Turns = slices.Clone(d.Turns)
	return out
}

func sameNodes(a []impl.Node, b []impl.Node) bool {
	return slices.EqualFunc(a, b, func(x, y impl.Node) bool {
		return x.Id == y.Id && bytes.Equal(x.Body, y.Body) && bytes.Equal(x.Safe, y.Safe)
	})
}

func sameDisk(a impl.Disk, b impl.Disk) bool {
	return a.Room == b.Room && a.Fuse == b.Fuse && a.Next == b.Next && sameNodes(a.Nodes, b.Nodes) && slices.Equal(a.Kept, b.Kept) && slices.Equal(a.Turns, b.Turns)
}

// dice are numbers with little order in them, always the same ones from the same seed.
type dice uint64

func (d *dice) roll(n int) int {
	*d = *d*6364136223846793005 + 1442695040888963407
	return int(uint64(*d)>>33) % n
}

func pick[T any](d *dice, l []T) T {
	return l[d.roll(len(l))]
}
