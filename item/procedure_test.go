package item_test

import (
	"math"
	"slices"
	"testing"

	"pascaline/api"
	"pascaline/emit"
	"pascaline/frame"
	"pascaline/instr"
	"pascaline/item"
	"pascaline/memory"
	"pascaline/scope"
)

// needed tells how many bytes of stack a procedure needs.
func needed(size, waits int) uint32 { return uint32(size + 4*min(waits, 16384) + 64) }

// entered fails unless the code from a word on enters a procedure with just as much stack as it needs, and halts then; and unless it traps with less.
func entered(t *testing.T, g *item.Gen, at, size, waits int) {
	t.Helper()
	room := uint32(top - 8 - needed(size, waits))
	pushed := map[uint32]uint32{top - 4: back, top - 8: fp}
	for n, limit := range []uint32{room, room - 4, heapEnd, 0, 0x80000000} {
		if limit > room && int32(limit) >= 0 {
			continue
		}
		r := played(t, g, setup{seed: uint32(n), limit: limit, entry: at})
		r.halted()
		r.isFrame(top-8, size, pushed)
		r.kept(0, 6, 7, 8, 9, 10, 11, 12, item.LR)
	}
	for n, limit := range []uint32{room + 1, room + 4, room + 8, top, 0x7fffffff} {
		r := played(t, g, setup{seed: uint32(n), limit: limit, entry: at})
		r.trapped(api.Stack)
		r.stack(top - 8)
		r.stored(top-8, pushed)
		if r.R[item.FP] != top-8 || r.low != top-8 {
			t.Fatalf("the frame register %x, the stack pointer down to %x", r.R[item.FP], r.low)
		}
	}
}

// isFrame fails unless the frame register is here, with so many bytes of zeros below it, and nothing else has changed.
func (r *run) isFrame(at uint32, size int, changes map[uint32]uint32) {
	r.t.Helper()
	bottom := at - uint32(size)
	if r.R[item.FP] != at {
		r.t.Fatalf("the frame register %x, not %x", r.R[item.FP], at)
	}
	r.stack(bottom)
	all := map[uint32]uint32{}
	for a := bottom; a < at; a += 4 {
		all[a] = 0
	}
	for a, w := range changes {
		all[a] = w
	}
	r.stored(bottom, all)
}

// several makes so many values wait, and removes them.
func several(g *item.Gen, many int) {
	for range many {
		g.Wait()
	}
	g.Drop(many)
}

// P19.4
func TestEnter(t *testing.T) {
	for _, size := range []int{0, 4, 8, 12, 100, 4096, 16380, 16384} {
		for _, waits := range []int{0, 1, 2, 31, 32} {
			g := item.New()
			f := frame.Frame{Size: size}
			g.Enter(&f)
			ended(g)
			several(g, waits)
			g.Done()
			if g.Depth() != 0 || f.Size != size {
				t.Fatalf("%d values wait, the Size is %d", g.Depth(), f.Size)
			}
			entered(t, g, 0, size, waits)
		}
	}
}

// P19.4: variables that are added behind Enter count, and those that are added behind Done don't.
func TestEnterGrows(t *testing.T) {
	for _, x := range []struct {
		ahead, behind, later []int
		size                 int
	}{
		{nil, []int{4}, nil, 4}, {nil, []int{4, 10, 1}, []int{4}, 20}, {[]int{8}, []int{16}, []int{100}, 24}, {nil, []int{16384}, nil, 16384},
		{[]int{4}, []int{16380}, nil, 16384}, {[]int{16380}, []int{4}, nil, 16384}, {[]int{16380}, nil, []int{4}, 16380}, {nil, nil, []int{16384}, 0},
	} {
		g := item.New()
		var f frame.Frame
		add := func(sizes []int) {
			for _, size := range sizes {
				if _, e := f.Local(size); e != api.OK {
					t.Fatalf("Local(%d): %d", size, e)
				}
			}
		}
		add(x.ahead)
		g.Enter(&f)
		ended(g)
		add(x.behind)
		g.Done()
		add(x.later)
		entered(t, g, 0, x.size, 0)
	}
}

// P19.4: it is the most that wait at once in the procedure that counts.
func TestEnterMost(t *testing.T) {
	for n, x := range []struct {
		do    func(g *item.Gen)
		waits int
	}{
		{func(g *item.Gen) {}, 0},
		{func(g *item.Gen) { several(g, 3); several(g, 7); several(g, 2) }, 7},
		{func(g *item.Gen) { g.Wait(); several(g, 3); g.Pop(0); several(g, 2) }, 4},
		{func(g *item.Gen) { g.Link(0); g.Link(1); g.Call(scope.Object{Params: make([]api.Param, 1)}) }, 2},
		{func(g *item.Gen) {
			g.Wait()
			g.Wait()
			g.Two("+")
			g.Wait()
			g.Store()
			g.Wait()
			g.Cell(4)
			g.Store()
		}, 2},
		{func(g *item.Gen) { g.Push(3); g.Index(3, 3); g.Push(2); g.Pop(1) }, 1},
		{func(g *item.Gen) { several(g, 32) }, 32},
		{func(g *item.Gen) { g.Drop(-33); g.Drop(33) }, 33},
		{func(g *item.Gen) { g.Drop(-5000); g.Drop(5000) }, 5000},
		{func(g *item.Gen) { g.Drop(-16383); g.Drop(16383) }, 16383},
		{func(g *item.Gen) { g.Drop(-16384); g.Drop(16384) }, 16384},
		{func(g *item.Gen) { g.Drop(-100000); g.Drop(100000) }, 16384},
	} {
		for _, size := range []int{0, 16384} {
			g := item.New()
			several(g, 20) // ahead of the procedure
			from := g.Here()
			f := frame.Frame{Size: size}
			g.Enter(&f)
			ended(g)
			x.do(g)
			g.Done()
			several(g, 25) // behind it
			g.Done()
			ended(g)
			entered(t, g, from, size, x.waits)
			if g.Depth() != 0 {
				t.Errorf("%d: %d values wait", n, g.Depth())
			}
		}
	}
}

// P19.4: no more than 2 steps for each byte of the variables, beside some.
func TestEnterSteps(t *testing.T) {
	for _, size := range []int{0, 4, 100, 16384} {
		g := item.New()
		g.Enter(&frame.Frame{Size: size})
		g.Done()
		ended(g)
		if r := played(t, g, setup{}); r.Steps > 2*size+30 {
			t.Errorf("%d steps for %d bytes", r.Steps, size)
		}
	}
}

// P19.4: procedures one behind the other don't know of each other.
func TestEnterRow(t *testing.T) {
	g := item.New()
	sizes, waits := []int{8, 0, 400, 16384, 4}, []int{3, 9, 0, 32, 1}
	var at []int
	for n, size := range sizes {
		at = append(at, g.Here())
		g.Enter(&frame.Frame{Size: size})
		ended(g)
		several(g, waits[n])
		g.Reset()
		g.Done()
	}
	for n, size := range sizes {
		entered(t, g, at[n], size, waits[n])
	}
}

// nest is a row of procedures, each within the one ahead of it.
type nest struct {
	g      *item.Gen
	saves  bool // whether Proc is put away around each procedure within another one
	sizes  []int
	first  []int // how many values wait in each ahead of those within it
	second []int // and how many behind them
	enters []int // the words at which they begin
	resets []int // the words at which their stack is set anew behind those within them
}

// write writes the procedure of a number, and those within it.
func (x *nest) write(n int) {
	g, f := x.g, &frame.Frame{}
	was := g.Proc
	x.enters[n] = g.Here()
	g.Level = n + 1
	g.Enter(f)
	ended(g)
	several(g, x.first[n])
	if n+1 < len(x.sizes) {
		x.write(n + 1)
	}
	g.Level = n + 1
	f.Local(x.sizes[n])
	several(g, x.second[n])
	x.resets[n] = g.Here()
	g.Reset()
	ended(g)
	g.Done()
	if x.saves {
		g.Proc = was
	}
}

// P19.4: each Done ends the innermost procedure, whether Proc is put away or not.
func TestProceduresWithin(t *testing.T) {
	for _, saves := range []bool{false, true} {
		x := &nest{
			g: item.New(), saves: saves,
			sizes:  []int{20, 0, 16384, 4},
			first:  []int{5, 1, 0, 7},
			second: []int{2, 8, 0, 9},
			enters: make([]int, 4),
			resets: make([]int, 4),
		}
		x.write(0)
		for n, size := range x.sizes {
			entered(t, x.g, x.enters[n], size, max(x.first[n], x.second[n]))
			r := played(t, x.g, setup{entry: x.resets[n]})
			r.halted()
			r.stack(fp - uint32(size))
		}
	}
}

// P19.4
func TestReset(t *testing.T) {
	for _, size := range []int{0, 4, 12, 400, 16384} {
		for _, many := range []int{0, 1, 5, 32} {
			g := item.New()
			var f frame.Frame
			g.Enter(&f)
			sentinels(g, many)
			g.Number(0, 123)
			g.Reset()
			ended(g)
			f.Local(size)
			g.Done()
			r := played(t, g, setup{seed: uint32(many)})
			r.halted()
			r.value(123)
			r.isFrame(top-8, size, map[uint32]uint32{top - 4: back, top - 8: fp})
			r.kept(6, 7, 8, 9, 10, 11, 12, item.LR)
		}
	}
}

// P19.4: wherever the stack pointer is, and as often as one likes.
func TestResetOften(t *testing.T) {
	g := item.New()
	f := frame.Frame{Size: 8}
	g.Enter(&f)
	var at []int
	for range 5 {
		at = append(at, g.Here())
		g.Reset()
		ended(g)
		f.Local(20)
	}
	g.Done()
	for _, word := range at {
		for n, sp := range []uint32{0, 4, top, fp, stackEnd, 0xfffffffc} {
			r := played(t, g, setup{seed: uint32(n), entry: word, regs: map[int]uint32{item.SP: sp}})
			r.halted()
			r.stack(fp - 108)
			r.kept(0, 6, 7, 8, 9, 10, 11, 12, item.FP, item.LR)
			if at, differ := memory.Differ(r.start, r.now); differ {
				t.Errorf("Reset stores something at %x", at)
			}
		}
	}
}

// left writes a call of a procedure of so many parameters, behind sentinels, and the procedure, which leaves while values wait.
func left(many, params, leave, size, waits int) *item.Gen {
	g := item.New()
	sentinels(g, many)
	for n := range params {
		g.Number(0, int32(-n))
		g.Push(0)
	}
	g.Link(0)
	call := g.Jump(instr.CALL, 0)
	g.Drop(params + 1)
	ended(g)
	g.Land(call)
	var f frame.Frame
	g.Enter(&f)
	f.Local(size)
	for range waits {
		g.Push(3)
	}
	g.Number(item.LR, 0)
	g.Number(0, 4711)
	g.Leave(leave)
	g.Done()
	return g
}

// P19.4
func TestLeave(t *testing.T) {
	for params := range 17 {
		for _, size := range []int{0, 4, 400, 16384} {
			for waits := range 3 {
				g := left(waits, params, params, size, 2*waits)
				r := played(t, g, setup{seed: uint32(params)})
				r.halted()
				r.value(4711)
				changes, at := waiting(waits)
				r.stack(at)
				r.stored(at, changes)
				r.kept(6, 7, 8, 9, 10, 11, 12, item.FP)
				if lowest := at - uint32(4*params+12+size+8*waits); r.low != lowest {
					t.Fatalf("the stack pointer was down to %x, not %x", r.low, lowest)
				}
			}
		}
	}
}

// P19.4: no procedure has fewer parameters than none, or more than 16.
func TestLeaveFar(t *testing.T) {
	for _, many := range append([]int{-2, 2, 15, 16, 17, 18}, far...) {
		g := left(3, 16, many, 8, 1)
		r := played(t, g, setup{})
		r.halted()
		_, at := waiting(3)
		r.stack(at - uint32(4*(16-max(0, min(many, 16)))))
	}
}

// P19.4: where the code goes on, and the frame, are what was pushed, whatever the registers and what waits are.
func TestLeaveFrame(t *testing.T) {
	for n, sp := range []uint32{0, top, 0x30000, 0xfffffffc} {
		g := item.New()
		g.Leave(2)
		ended(g)
		words := map[uint32]uint32{fp: 0x2468ace0, fp + 4: vector - 40}
		r := played(t, g, setup{seed: uint32(n), words: words, regs: map[int]uint32{item.SP: sp}, code: map[int][]uint32{(vector - 40) / 4: {halt}}})
		r.halted()
		r.stack(fp + 8 + 12)
		r.kept(0, 6, 7, 8, 9, 10, 11, 12)
		if r.PC != vector-40 || r.R[item.FP] != 0x2468ace0 {
			t.Errorf("it goes on at %x with the frame %x", r.PC, r.R[item.FP])
		}
		if at, differ := memory.Differ(r.start, r.now); differ {
			t.Errorf("Leave stores something at %x", at)
		}
	}
}

// linking fails unless Link lets this word wait.
func linking(t *testing.T, own, level, many int, words map[uint32]uint32, want uint32) {
	t.Helper()
	g := item.New()
	g.Level = own
	sentinels(g, many)
	g.Link(level)
	ended(g)
	if g.Depth() != many+1 {
		t.Fatalf("Link: %d values wait, not %d", g.Depth(), many+1)
	}
	r := played(t, g, setup{seed: uint32(level), words: words})
	r.halted()
	changes, at := waiting(many)
	changes[at-4] = want
	r.stack(at - 4)
	r.stored(at-4, changes)
	r.kept(others...)
}

// P19.5
func TestLink(t *testing.T) {
	for _, own := range []int{0, 1, 2, 3, 10, 64} {
		frames, words := chain(own + 1)
		for _, level := range []int{math.MinInt, -64, -2, -1, 0} {
			linking(t, own, level, own%5, words, 0)
		}
		for level := 1; level <= own; level++ {
			linking(t, own, level, level%5, words, frames[own-level])
		}
		for _, level := range []int{own + 1, own + 2, 1000, math.MaxInt} {
			linking(t, own, level, 1, words, fp)
		}
	}
}

// P19.5: Link asks nothing of how many values wait.
func TestLinkMany(t *testing.T) {
	g := item.New()
	sentinels(g, 32)
	g.Link(0)
	g.Link(5)
	failed(t, g, api.OK)
	if g.Depth() != 34 {
		t.Errorf("%d values wait, not 34", g.Depth())
	}
}

// callee returns the words of a procedure that takes so many words from the stack, and returns a number.
func callee(t *testing.T, many int, n int32) []uint32 {
	t.Helper()
	c := emit.New()
	c.Sign(instr.ADDI, item.SP, item.SP, 4*many)
	c.Number(0, n)
	c.Reg(instr.JR, item.LR)
	r, e := c.Finish()
	if e != api.OK {
		t.Fatalf("Finish: %d", e)
	}
	return r.Words
}

// P19.5
func TestCall(t *testing.T) {
	for params := range 17 {
		for _, module := range []int{0, 1, 3, 64} {
			for _, n := range []int{0, 1, 5, 15} {
				x := scope.Object{Name: "p", Kind: api.ObjProc, N: int32(n), Module: module, Params: make([]api.Param, params)}
				at, fixups := entry(module, n), []api.Fixup{{Kind: api.FixCall, Module: module, Value: n}}
				if module == 0 {
					at, fixups = 9000+n, nil
					x.N = int32(at)
				}
				calling(t, x, at, fixups)
			}
		}
	}
}

// calling fails unless Call of a procedure at a word goes there, comes back, and removes what the procedure takes.
func calling(t *testing.T, x scope.Object, at int, fixups []api.Fixup) {
	t.Helper()
	g := item.New()
	sentinels(g, 3)
	for n := range x.Params {
		g.Number(0, int32(n))
		g.Wait()
	}
	g.Link(x.Level)
	call := g.Here()
	g.Call(x)
	if g.Here() != call+1 || g.Depth() != 3 {
		t.Fatalf("Call: %d words; %d values wait, not 3", g.Here()-call, g.Depth())
	}
	ended(g)
	r := played(t, g, setup{code: map[int][]uint32{at: callee(t, len(x.Params)+1, 4711)}})
	r.halted()
	r.value(4711)
	changes, sp := waiting(3)
	r.stack(sp)
	r.stored(sp, changes)
	r.kept(6, 7, 8, 9, 10, 11, 12, item.FP)
	if r.R[item.LR] != uint32(4*call+4) {
		t.Fatalf("the link register %x, not %x", r.R[item.LR], 4*call+4)
	}
	trial{fixups: fixups}.checkFixups(t, g)
}

// aroundCalls writes a call of a procedure ahead of it, and one of a procedure behind it, and returns where the latter begins.
func aroundCalls(behind int) (*item.Gen, int) {
	g := item.New()
	over := g.Jump(instr.BR, 0)
	ahead := g.Here()
	returning(g, 20)
	g.Land(over)
	for n, at := range []int{ahead, behind} {
		if n > 0 {
			g.Wait()
		}
		g.Link(0)
		g.Call(scope.Object{Kind: api.ObjProc, N: int32(at)})
	}
	g.Two("-")
	ended(g)
	at := g.Here()
	returning(g, 3)
	return g, at
}

// returning writes a procedure without parameters that returns a number.
func returning(g *item.Gen, n int32) {
	g.Enter(&frame.Frame{Size: 8})
	g.Number(0, n)
	g.Leave(0)
	g.Done()
}

// P19.5: the procedure may be ahead of the call, or behind it.
func TestCallWhere(t *testing.T) {
	_, at := aroundCalls(0)
	g, _ := aroundCalls(at)
	r := played(t, g, setup{})
	r.halted()
	r.value(17)
	r.stack(top)
	r.kept(item.FP)
	r.stored(top, nil)
}

// P19.5: what linking puts into the code begins at the call.
func TestCallFixup(t *testing.T) {
	g := item.New()
	ended(g)
	g.Call(scope.Object{Kind: api.ObjProc, N: 12, Module: 3})
	ended(g)
	g.Call(scope.Object{Kind: api.ObjProc, N: 1, Module: 1})
	g.Call(scope.Object{Kind: api.ObjProc, N: 1})
	want := []api.Fixup{{At: 1, Kind: api.FixCall, Module: 3, Value: 12}, {At: 3, Kind: api.FixCall, Module: 1, Value: 1}}
	if r := finished(t, g); !slices.Equal(r.Fixups, want) || len(r.Words) != 5 {
		t.Errorf("%v", r)
	}
}

// heap returns the heap's two words.
func heap(first, end uint32) map[uint32]uint32 {
	return map[uint32]uint32{heapAt: first, heapAt + 4: end}
}

var heapFixup = []api.Fixup{{Kind: api.FixHeap}}

// P19.5
func TestCell(t *testing.T) {
	for _, size := range []int{math.MinInt, -16384, -1, 0, 1, 3, 4, 5, 8, 12, 16380, 16384, 32764, 32767, 32768, 65536, 100000, 1 << 20} {
		taken := uint32(max(size, 4))
		for n, first := range []uint32{0, 4, dataEnd, 0x1a340} {
			for _, room := range []uint32{taken, taken + 1, taken + 4, taken + 5000, 0x7fffffff - first} {
				trial{
					operands: []int32{data + 40, 99},
					do:       func(g *item.Gen) { g.Cell(size) },
					words:    heap(first, first+room),
					want:     99,
					changes:  map[uint32]uint32{heapAt: first + taken, data + 40: first},
					fixups:   heapFixup,
				}.check(t, n, room)
			}
		}
	}
}

// P19.5: neither the heap nor the place changes where the room is too little.
func TestCellTooLittle(t *testing.T) {
	for _, size := range []int{-1, 0, 1, 4, 5, 8, 12, 16384, 32768, 65536, 1 << 20, greatest - 1, greatest, greatest + 1, math.MaxUint32, 1 << 32, 1<<32 + 4, math.MaxInt} {
		taken := max(size, 4)
		for n, first := range []int{0, 4, dataEnd, 0x1a340} {
			for _, room := range []int{taken - 1, taken - 4, 0, -4, -16} {
				room = min(room, 1<<20)
				trial{
					operands: []int32{data + 40, 99},
					do:       func(g *item.Gen) { g.Cell(size) },
					words:    heap(uint32(first), uint32(first+room)),
					cause:    api.Heap,
					fixups:   heapFixup,
				}.check(t, n, uint32(room))
			}
		}
	}
}

// P19.5: cells are one behind the other, till the heap is full.
func TestCellRow(t *testing.T) {
	g := item.New()
	want := heap(dataEnd+24, dataEnd+27)
	at := uint32(dataEnd)
	for n, size := range []int{8, 0, 4, 1, 4} {
		place := uint32(data + 4*n)
		g.Number(0, int32(place))
		g.Wait()
		g.Cell(size)
		want[place] = at
		at += uint32(max(size, 4))
	}
	g.Out(0)
	g.Number(0, data+100)
	g.Wait()
	g.Cell(4)
	r := played(t, g, setup{words: heap(dataEnd, dataEnd+27)})
	r.trapped(api.Heap)
	r.stored(top, want)
	if len(r.Out) != 1 {
		t.Errorf("the trap came too early")
	}
}

// P19.5: what linking puts into the code is the address of the heap's words.
func TestCellFixup(t *testing.T) {
	g := item.New()
	g.Wait()
	from := g.Here()
	g.Cell(4)
	r := finished(t, g)
	if len(r.Fixups) != 1 || r.Fixups[0].Kind != api.FixHeap || r.Fixups[0].Module != 0 || r.Fixups[0].Value != 0 || r.Fixups[0].At < from {
		t.Errorf("the fixups %v", r.Fixups)
	}
}
