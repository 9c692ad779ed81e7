package tests

import (
	"bytes"
	"slices"
	"sync"

	"loop.example/g00600/impl"
)

// The model is chapter 10 sentence by sentence, upon the model of chapter 9; each byte makes a whole new terminal.

// heads are all that a rune of several bytes may begin with, from one byte to all but the last. The last one runs through all that it may be from each rune that 64 divides, and isn't in a head.
var heads = sync.OnceValue(func() map[string]bool {
	all := map[string]bool{}
	for r := 128; r <= 1114111; r += 64 {
		whole := bytesOfRune(r)
		for n := 1; n < len(whole); n++ {
			all[string(whole[:n])] = true
		}
	}
	return all
})

func modelBegins(b []byte) bool { return heads()[string(b)] }

// modelWhole works a rune out as if p were one, and asks whether it is.
func modelWhole(p []byte) (int, bool) {
	r := 0
	for i, c := range p {
		switch {
		case i > 0:
			r = r*64 + int(c)%64
		case len(p) == 1:
			r = int(c)
		case len(p) == 2:
			r = int(c) - 192
		case len(p) == 3:
			r = int(c) - 224
		default:
			r = int(c) - 240
		}
	}
	return r, len(p) > 0 && bytes.Equal(bytesOfRune(r), p)
}

func modelVt(v impl.Vt) bool {
	if !modelGrid(v.Grid) || v.State < 0 || v.State > 2 || v.Bells < 0 || v.Bells > 1000000 {
		return false
	}
	if len(v.Args) > 0 && v.State != 2 || len(v.Args) > 4 {
		return false
	}
	for _, n := range v.Args {
		if n < 0 || n > 9999 {
			return false
		}
	}
	return len(v.Part) == 0 || v.State == 0 && modelBegins(v.Part)
}

func modelVtNew(w int, h int) (impl.Vt, bool) {
	g, ok := modelGridNew(w, h)
	return impl.Vt{Grid: g}, ok
}

func modelByte(v impl.Vt, b int) impl.Vt {
	if !modelVt(v) {
		return impl.Vt{}
	}
	out := cloneVt(v)
	switch {
	case b < 0 || b > 255:
		return out
	case v.State == 1 && b == '[':
		out.State = 2
	case v.State == 1:
		out.State = 0
	case v.State == 2:
		return modelSequence(out, b)
	case b >= 128:
		return modelHigh(out, byte(b))
	default:
		out.Part = nil
		return modelLow(out, b)
	}
	return out
}

func modelHigh(v impl.Vt, b byte) impl.Vt {
	p := append(slices.Clone(v.Part), b)
	v.Part = nil
	if r, whole := modelWhole(p); whole {
		v.Grid = modelPut(v.Grid, r)
	} else if modelBegins(p) {
		v.Part = p
	}
	return v
}

func modelLow(v impl.Vt, b int) impl.Vt {
	g := v.Grid
	switch {
	case b == 7 && v.Bells < 1000000:
		v.Bells++
	case b == 8:
		v.Grid = modelGo(g, g.X-1, g.Y)
	case b == 10 && g.Y < g.H-1:
		v.Grid = modelGo(g, g.X, g.Y+1)
	case b == 10:
		v.Grid = modelScroll(g)
		v.Grid.Wrap = false
	case b == 13:
		v.Grid = modelGo(g, 0, g.Y)
	case b == 27:
		v.State = 1
	case 32 <= b && b <= 126:
		v.Grid = modelPut(g, b)
	}
	return v
}

func modelSequence(v impl.Vt, b int) impl.Vt {
	some := len(v.Args) > 0
	switch {
	case '0' <= b && b <= '9' && !some:
		v.Args = []int{b - '0'}
	case '0' <= b && b <= '9':
		last := len(v.Args) - 1
		v.Args[last] = v.Args[last]*10 + b - '0'
		if v.Args[last] > 9999 {
			v.Args[last] = 9999
		}
	case b == ';' && !some:
		v.Args = []int{0, 0}
	case b == ';' && len(v.Args) < 4:
		v.Args = append(v.Args, 0)
	case b == ';':
	default:
		if 64 <= b && b <= 126 {
			v.Grid = modelDone(v.Grid, b, v.Args)
		}
		v.State, v.Args = 0, nil
	}
	return v
}

// modelArg tells what stands for an argument that isn't there or is 0.
func modelArg(args []int, i int, instead int) int {
	if i >= len(args) || args[i] == 0 {
		return instead
	}
	return args[i]
}

func modelDone(g impl.Grid, final int, args []int) impl.Grid {
	n, m := modelArg(args, 0, 1), modelArg(args, 1, 1)
	switch final {
	case 'A':
		return modelGo(g, g.X, g.Y-n)
	case 'B':
		return modelGo(g, g.X, g.Y+n)
	case 'C':
		return modelGo(g, g.X+n, g.Y)
	case 'D':
		return modelGo(g, g.X-n, g.Y)
	case 'H':
		return modelGo(g, m-1, n-1)
	case 'J':
		return modelErase(g, 0, len(g.Cells)-1, modelArg(args, 0, 0))
	case 'K':
		return modelErase(g, g.Y*g.W, g.Y*g.W+g.W-1, modelArg(args, 0, 0))
	}
	return g
}

// modelErase has the first and the last of the places.
func modelErase(g impl.Grid, first int, last int, n int) impl.Grid {
	at := g.Y*g.W + g.X
	switch n {
	case 0:
		first = at
	case 1:
		last = at
	case 2:
	default:
		return g
	}
	return modelClear(g, first, last+1)
}

func modelFed(v impl.Vt, text string) impl.Vt {
	if !modelVt(v) {
		return impl.Vt{}
	}
	v = cloneVt(v)
	for i := range len(text) {
		v = modelByte(v, int(text[i]))
	}
	return v
}

func modelSized(v impl.Vt, w int, h int) (impl.Vt, bool) {
	out, ok := modelVtNew(w, h)
	if !ok || !modelVt(v) {
		return impl.Vt{}, false
	}
	out.Bells = v.Bells
	return out, true
}

func cloneVt(v impl.Vt) impl.Vt {
	v.Grid = cloneGrid(v.Grid)
	v.Args = slices.Clone(v.Args)
	v.Part = slices.Clone(v.Part)
	return v
}

func sameVt(a impl.Vt, b impl.Vt) bool {
	return sameGrid(a.Grid, b.Grid) && a.State == b.State && slices.Equal(a.Args, b.Args) && bytes.Equal(a.Part, b.Part) && a.Bells == b.Bells
}
