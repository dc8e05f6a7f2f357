package item_test

import (
	"testing"

	"pascaline/api"
	"pascaline/frame"
	"pascaline/instr"
	"pascaline/item"
	"pascaline/scope"
)

// Whole programs, as a compiler writes them.

// variable, parameter and reference are objects of the procedures of a level.
func variable(level, n int) scope.Object {
	return scope.Object{Kind: api.ObjVar, Type: api.Int, Level: level, N: int32(n)}
}

func parameter(level, i, many int) scope.Object {
	n, _ := frame.Param(i, many)
	return scope.Object{Kind: api.ObjParam, Type: api.Int, Level: level, N: int32(n)}
}

func reference(level, i, many int) scope.Object {
	x := parameter(level, i, many)
	x.Kind = api.ObjRef
	return x
}

// procedure is an object for Call, declared at a level.
func procedure(level, at, params int) scope.Object {
	return scope.Object{Kind: api.ObjProc, Level: level, N: int32(at), Params: make([]api.Param, params)}
}

// program writes code, and fails where an object has no address.
type program struct {
	*item.Gen
	t *testing.T
}

func (p program) address(x scope.Object) {
	p.t.Helper()
	if e := p.Address(x); e != api.OK {
		p.t.Fatalf("Address(%v): %d", x, e)
	}
}

func (p program) load(x scope.Object) {
	p.t.Helper()
	p.address(x)
	p.Load()
}

// two makes the value the result of what waits and a number.
func (p program) two(sign string, n int32) {
	p.t.Helper()
	p.Wait()
	p.Number(0, n)
	p.apply(sign)
}

func (p program) apply(sign string) {
	p.t.Helper()
	if e := p.Two(sign); e != api.OK {
		p.t.Fatalf("Two(%s): %d", sign, e)
	}
}

// call calls a procedure whose parameters wait.
func (p program) call(x scope.Object) {
	p.Link(x.Level)
	p.Call(x)
}

// begun returns a program that goes on behind the words that procedures writes.
func begun(t *testing.T, procedures func(p program)) program {
	p := program{item.New(), t}
	over := p.Jump(instr.BR, 0)
	procedures(p)
	p.Land(over)
	p.Level = 0
	return p
}

// ends runs a program, which must leave the stack as it was.
func (p program) ends(s setup, want int32) *run {
	p.t.Helper()
	ended(p.Gen)
	if p.Depth() != 0 {
		p.t.Fatalf("%d values wait at the end", p.Depth())
	}
	r := played(p.t, p.Gen, s)
	r.halted()
	r.value(want)
	r.stack(top)
	r.kept(item.FP)
	return r
}

// factorial writes a function that calls itself.
func factorial(p program) int {
	at := p.Here()
	p.Level = 1
	var f frame.Frame
	p.Enter(&f)
	p.load(parameter(1, 0, 1))
	zero := p.Jump(instr.BZ, 0)
	p.load(parameter(1, 0, 1))
	p.Wait()
	p.load(parameter(1, 0, 1))
	p.two("-", 1)
	p.Wait()
	p.call(procedure(0, at, 1))
	p.apply("*")
	p.Leave(1)
	p.Land(zero)
	p.Number(0, 1)
	p.Leave(1)
	p.Done()
	return at
}

func TestFactorial(t *testing.T) {
	for n, want := range []int32{1, 1, 2, 6, 24, 120, 720, 5040, 40320, 362880, 3628800} {
		at := 0
		p := begun(t, func(p program) { at = factorial(p) })
		p.Number(0, int32(n))
		p.Wait()
		p.call(procedure(0, at, 1))
		r := p.ends(setup{seed: uint32(n)}, want)
		r.stored(top, nil)
	}
}

// P19.4: without end, the stack is used up: the trap comes ahead of the limit.
func TestStackUsedUp(t *testing.T) {
	for _, limit := range []uint32{top - 100, top - 1000, top - 5004, heapEnd} {
		at := 0
		p := begun(t, func(p program) { at = factorial(p) })
		p.Number(0, -1)
		p.Wait()
		p.call(procedure(0, at, 1))
		ended(p.Gen)
		r := played(t, p.Gen, setup{limit: limit})
		r.trapped(api.Stack)
		if r.low < limit || r.low > limit+200 {
			t.Errorf("the stack was used down to %x, and the limit is %x", r.low, limit)
		}
		r.stored(top, nil)
	}
}

// within writes procedures each of which is within the one ahead of it, and returns where the one at a level begins. Each has a variable, and calls the next one; the last one adds all of them.
func within(p program, level, deepest int) int {
	inner := 0
	if level < deepest {
		inner = within(p, level+1, deepest)
	}
	at := p.Here()
	own := level + 1
	p.Level = own
	var f frame.Frame
	p.Enter(&f)
	place, _ := f.Local(4)
	p.address(variable(own, place))
	p.Wait()
	p.load(parameter(own, 0, 1))
	p.two("+", int32(own))
	p.Store()
	if inner > 0 {
		p.load(variable(own, place))
		p.Wait()
		p.call(procedure(own, inner, 1))
	} else {
		p.Number(0, 0)
		for n := 1; n <= own; n++ {
			p.Wait()
			p.load(variable(n, place))
			p.apply("+")
		}
	}
	p.Leave(1)
	p.Done()
	return at
}

func TestWithin(t *testing.T) {
	for _, deepest := range []int{0, 1, 2, 5, 20, 63} {
		want, sum := int32(0), int32(100)
		for n := range deepest + 1 {
			sum += int32(n + 1)
			want += sum
		}
		at := 0
		p := begun(t, func(p program) { at = within(p, 0, deepest) })
		p.Number(0, 100)
		p.Wait()
		p.call(procedure(0, at, 1))
		p.ends(setup{seed: uint32(deepest)}, want)
	}
}

// frames writes a procedure outer(n, VAR r), and within it inner(m), which adds m and the n of its own outer to r. Outer calls itself with n - 1 ahead of inner, and inner calls itself with m - 1.
func frames(p program) int {
	inner := p.Here()
	p.Level = 2
	p.Enter(&frame.Frame{})
	p.address(reference(1, 1, 2))
	p.Wait()
	p.load(reference(1, 1, 2))
	p.Wait()
	p.load(parameter(1, 0, 2))
	p.apply("+")
	p.Wait()
	p.load(parameter(2, 0, 1))
	p.apply("+")
	p.Store()
	p.load(parameter(2, 0, 1))
	done := p.Jump(instr.BZ, 0)
	p.load(parameter(2, 0, 1))
	p.two("-", 1)
	p.Wait()
	p.call(procedure(1, inner, 1))
	p.Land(done)
	p.Leave(1)
	p.Done()

	outer := p.Here()
	p.Level = 1
	p.Enter(&frame.Frame{})
	p.load(parameter(1, 0, 2))
	last := p.Jump(instr.BZ, 0)
	p.load(parameter(1, 0, 2))
	p.two("-", 1)
	p.Wait()
	p.address(reference(1, 1, 2))
	p.Wait()
	p.call(procedure(0, outer, 2))
	p.Land(last)
	p.load(parameter(1, 0, 2))
	p.Wait()
	p.call(procedure(1, inner, 1))
	p.Leave(2)
	p.Done()
	return outer
}

func TestFrames(t *testing.T) {
	for n := range int32(8) {
		want := int32(1000)
		for outer := range n + 1 {
			for m := range outer + 1 {
				want += outer + m
			}
		}
		at := 0
		p := begun(t, func(p program) { at = frames(p) })
		total := variable(0, 44)
		p.Number(0, n)
		p.Wait()
		p.address(total)
		p.Wait()
		p.call(procedure(0, at, 2))
		p.load(total)
		r := p.ends(setup{seed: uint32(n), words: map[uint32]uint32{data + 44: 1000}}, want)
		r.stored(top, map[uint32]uint32{data + 44: uint32(want)})
	}
}

// A list of records on the heap, each with a number and the next one, is filled and added.
func TestRecords(t *testing.T) {
	const many = 5
	p := program{item.New(), t}
	list, node, sum := variable(0, 0), variable(0, 4), variable(0, 8)
	set := func(x scope.Object, value func()) {
		p.address(x)
		p.Wait()
		value()
		p.Store()
	}
	set(list, func() { p.Number(0, 0) })
	set(sum, func() { p.Number(0, 0) })
	for n := range int32(many) {
		p.address(node)
		p.Wait()
		p.Cell(8)
		p.load(node)
		p.Deref()
		p.Wait()
		p.Number(0, n*n)
		p.Store()
		p.load(node)
		p.Deref()
		p.Field(4)
		p.Wait()
		p.load(list)
		p.Store()
		set(list, func() { p.load(node) })
	}
	for range many {
		set(sum, func() {
			p.load(sum)
			p.Wait()
			p.load(list)
			p.Deref()
			p.Load()
			p.apply("+")
		})
		set(list, func() {
			p.load(list)
			p.Deref()
			p.Field(4)
			p.Load()
		})
	}
	p.load(sum)
	r := p.ends(setup{words: heap(dataEnd, heapEnd)}, 0+1+4+9+16)
	if r.word(heapAt) != dataEnd+8*many {
		t.Errorf("the heap begins at %x now", r.word(heapAt))
	}
}

// An array of arrays of a procedure is filled and added.
func TestArrays(t *testing.T) {
	const rows, columns = 3, 4
	at := 0
	p := begun(t, func(p program) {
		at = p.Here()
		p.Level = 1
		var f frame.Frame
		p.Enter(&f)
		place, _ := f.Local(4 * rows * columns)
		element := func(row, column int32) {
			p.address(variable(1, place))
			p.Wait()
			p.Number(0, row)
			p.Index(rows, 4*columns)
			p.Wait()
			p.Number(0, column)
			p.Index(columns, 4)
		}
		for row := range int32(rows) {
			for column := range int32(columns) {
				element(row, column)
				p.Wait()
				p.Number(0, 10*row+column)
				p.Store()
			}
		}
		p.Number(0, 0)
		for row := range int32(rows) {
			for column := range int32(columns) {
				p.two("*", 3)
				p.Wait()
				element(row, column)
				p.Load()
				p.apply("+")
			}
		}
		p.Leave(0)
		p.Done()
	})
	want := int32(0)
	for row := range int32(rows) {
		for column := range int32(columns) {
			want = 3*want + 10*row + column
		}
	}
	p.call(procedure(0, at, 0))
	p.ends(setup{}, want)
}

// The example of README.md: a procedure that doubles its parameter.
func TestDouble(t *testing.T) {
	at := 0
	p := begun(t, func(p program) {
		at = p.Here()
		p.Level = 1
		var f frame.Frame
		p.Enter(&f)
		place, _ := f.Local(4)
		p.address(variable(1, place))
		p.Wait()
		p.load(parameter(1, 0, 1))
		p.two("*", 2)
		p.Store()
		p.Leave(1)
		p.Done()
	})
	p.Number(0, 21)
	p.Wait()
	p.call(procedure(0, at, 1))
	p.Out(api.PortInt)
	p.Raise(scope.Object{Kind: api.ObjExc, Module: -1, N: api.Range})
	r := played(t, p.Gen, setup{limit: top - 4 - 4 - 8 - 4 - 8 - 64})
	r.trapped(api.Range)
	r.events(api.Event{Port: api.PortInt, Value: 42})
	r.stack(top)
}
