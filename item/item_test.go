package item_test

import (
	"math"
	"slices"
	"strings"
	"testing"

	"pascaline/api"
	"pascaline/frame"
	"pascaline/instr"
	"pascaline/item"
	"pascaline/konst"
	"pascaline/scope"
)

const (
	least    = math.MinInt32
	greatest = math.MaxInt32
)

// numbers are the edges of what a word can be, and some between.
var numbers = []int32{least, least + 1, -65537, -65536, -32769, -32768, -7, -2, -1, 0, 1, 2, 3, 7, 46341, 32767, 32768, 65535, 65536, greatest - 1, greatest}

// far are numbers far from all that can be.
var far = []int{math.MinInt, math.MinInt + 1, math.MinInt32 - 1, math.MinInt32, -1 << 20, -1, 0, 1, 40, 1 << 20, math.MaxInt32, math.MaxInt32 + 1, math.MaxUint32, 1<<32 + 1, math.MaxInt - 1, math.MaxInt}

func TestConstants(t *testing.T) {
	if got := []int{item.FP, item.LR, item.SP}; !slices.Equal(got, []int{13, 14, 15}) {
		t.Errorf("FP, LR, SP: %v", got)
	}
}

func TestNew(t *testing.T) {
	g := item.New()
	if r := finished(t, g); len(r.Words)+len(r.Fixups)+len(r.Segments) > 0 || g.Level != 0 || stateOf(g) != (state{}) {
		t.Errorf("New: %v, Level %d, %v", r, g.Level, stateOf(g))
	}
	other := item.New()
	other.Wait()
	other.Level = 3
	if stateOf(g) != (state{}) || g.Level != 0 {
		t.Errorf("a Gen knows of another one: %v, Level %d", stateOf(g), g.Level)
	}
}

// P19.1
func TestWait(t *testing.T) {
	for _, many := range []int{0, 1, 30, 31} {
		trial{do: func(g *item.Gen) {
			g.Number(0, 41)
			g.Wait()
			if g.Depth() != many+1 {
				t.Fatalf("%d values wait, not %d", g.Depth(), many+1)
			}
			g.Number(0, 43)
			g.Pop(0)
		}, want: 41}.check(t, many, uint32(many))
	}
}

// P19.1: the values wait in the order in which they came, and the value stays.
func TestWaitOrder(t *testing.T) {
	g := item.New()
	sentinels(g, 32)
	ended(g)
	r := played(t, g, setup{})
	r.halted()
	r.value(int32(sentinel(31)))
	changes, at := waiting(32)
	r.stored(at, changes)
	r.stack(at)
	r.kept(others...)
}

// P19.1
func TestWaitTooMany(t *testing.T) {
	g := item.New()
	for many := range 40 {
		want := state{g.Here() + 2, many + 1, api.OK}
		if many >= 32 {
			want.err = api.ErrTemps
		}
		g.Wait()
		if got := stateOf(g); got != want {
			t.Fatalf("Wait where %d values wait: %v, not %v", many, got, want)
		}
	}
	failed(t, g, api.ErrTemps)
}

// P19.1: values that wait by other calls count, those that were removed don't, and the first error stays.
func TestWaitBesideOthers(t *testing.T) {
	g := item.New()
	for range 31 {
		g.Push(1)
	}
	g.Link(0)
	g.Drop(1)
	g.Wait()
	failed(t, g, api.OK)
	g.Pop(0)
	g.Link(0)
	g.Wait()
	failed(t, g, api.ErrTemps)

	for _, many := range []int{32, 33, 34, 100, 1 << 30, math.MaxInt} {
		g = item.New()
		g.Drop(-many)
		g.Wait()
		failed(t, g, api.ErrTemps)
	}

	g = item.New()
	g.Drop(-33)
	g.Fail(api.ErrNested)
	g.Wait()
	failed(t, g, api.ErrNested)
}

// chain returns so many frames within each other, and the words that hold them together. The first one is that of the procedure itself.
func chain(many int) ([]uint32, map[uint32]uint32) {
	next := random(uint32(many))
	frames, words := []uint32{fp}, map[uint32]uint32{}
	for n := 1; n < many; n++ {
		at := uint32(0x21000 + 0x100*n + 4*int(next()%16))
		words[frames[n-1]+8] = at
		frames = append(frames, at)
	}
	return frames, words
}

// P19.1
func TestBase(t *testing.T) {
	for _, own := range []int{0, 1, 2, 3, 10, 63, 64, 65} {
		frames, words := chain(own + 1)
		for level := range own + 1 {
			trial{do: func(g *item.Gen) {
				g.Level = own
				g.Base(level)
			}, words: words, want: int32(frames[own-level])}.check(t, level%31, uint32(level))
		}
		for _, level := range []int{own + 1, own + 2, 1000, math.MaxInt} {
			trial{do: func(g *item.Gen) {
				g.Level = own
				g.Base(level)
			}, want: fp}.check(t, 2, uint32(level))
		}
	}
}

// P19.1: another frame register is another frame.
func TestBaseElsewhere(t *testing.T) {
	for n, at := range []uint32{0, 4, 0x20000, 0xfffffffc} {
		trial{operands: []int32{7}, do: func(g *item.Gen) { g.Base(0) }, regs: map[int]uint32{item.FP: at}, want: int32(at)}.check(t, 3, uint32(n))
	}
}

// places are where variables may be, from the frame register on.
var places = []int32{0, 4, 12, 16, 72, 76, 100, 16384, 32764, 32767, 32768, 32772, 65536, 100000, -4, -8, -400, -16384, -32764, -32768, -32769, -32772, -65536, -100000}

// P19.1
func TestAddressOfLocals(t *testing.T) {
	for _, own := range []int{0, 1, 2, 5, 64} {
		frames, words := chain(own + 1)
		for _, level := range []int{0, 1, own - 1, own, own + 1} {
			for n, place := range append(slices.Clone(places), numbers...) {
				at := frames[max(0, own-max(0, level))]
				for _, kind := range []int{api.ObjVar, api.ObjParam} {
					if level < 0 || level == 0 && kind == api.ObjVar {
						continue
					}
					x := scope.Object{Name: "x", Kind: kind, Type: api.Int, Level: level, N: place}
					trial{do: addressOf(t, own, x), words: words, want: int32(at) + place}.check(t, n%5, uint32(n))
				}
			}
		}
	}
}

// addressOf returns code of a level for the Address of an object.
func addressOf(t *testing.T, own int, x scope.Object) func(g *item.Gen) {
	return func(g *item.Gen) {
		g.Level = own
		if e := g.Address(x); e != api.OK {
			t.Fatalf("Address(%v): %d", x, e)
		}
	}
}

// P19.1
func TestAddressOfRefs(t *testing.T) {
	for _, own := range []int{0, 1, 2, 5, 64} {
		frames, words := chain(own + 1)
		for level := range own + 2 {
			at := frames[max(0, own-level)]
			for n, place := range places {
				word := at + uint32(place)
				if word%4 != 0 || word < tableEnd || word >= stackEnd {
					continue
				}
				if _, taken := words[word]; taken {
					continue
				}
				all := map[uint32]uint32{word: 0xa0000000 + uint32(n)}
				for a, w := range words {
					all[a] = w
				}
				x := scope.Object{Name: "x", Kind: api.ObjRef, Type: api.Int, Level: level, N: place}
				trial{do: addressOf(t, own, x), words: all, want: int32(all[word])}.check(t, n%3, uint32(n))
			}
		}
	}
}

// P19.1
func TestAddressOfGlobals(t *testing.T) {
	for _, own := range []int{0, 1, 64} {
		for _, module := range []int{0, 1, 2, 3, 64} {
			for n, place := range []int32{0, 4, 8, 1000, 16380, 16384, 65536} {
				x := scope.Object{Name: "x", Kind: api.ObjVar, Type: api.Int, N: place, Module: module}
				trial{
					do:     addressOf(t, own, x),
					want:   int32(base(module)) + place,
					fixups: []api.Fixup{{Kind: api.FixData, Module: module, Value: int(place)}},
				}.check(t, n, uint32(n))
			}
		}
	}
}

// P19.1: a variable of an import has a fixup, whatever its Level is.
func TestAddressOfImports(t *testing.T) {
	for _, level := range []int{0, 1, 2, 9} {
		x := scope.Object{Name: "x", Kind: api.ObjVar, Type: api.Int, Level: level, N: 8, Module: 3}
		trial{do: addressOf(t, 2, x), want: int32(base(3)) + 8, fixups: []api.Fixup{{Kind: api.FixData, Module: 3, Value: 8}}}.checkAll(t)
	}
}

// P19.1
func TestAddressFixups(t *testing.T) {
	g := item.New()
	ended(g)
	g.Address(scope.Object{Kind: api.ObjVar, N: 12, Module: 3})
	g.Address(scope.Object{Kind: api.ObjVar, N: 20})
	want := []api.Fixup{{At: 1, Kind: api.FixData, Module: 3, Value: 12}, {At: 3, Kind: api.FixData, Value: 20}}
	if r := finished(t, g); len(r.Words) != 5 || !slices.Equal(r.Fixups, want) {
		t.Errorf("%v", r)
	}
}

// P19.1
func TestAddressOfOthers(t *testing.T) {
	kinds := append([]int{api.ObjConst, api.ObjType, api.ObjProc, api.ObjExc, api.ObjModule, 9, 10, 16}, far...)
	for _, kind := range kinds {
		for _, x := range []scope.Object{{Kind: kind}, {Name: "x", Kind: kind, Type: api.Int, Level: 1, N: 4}, {Name: "x", Kind: kind, N: 4, Module: 3}} {
			writesNothing(t, func(g *item.Gen) {
				if e := g.Address(x); e != api.ErrKind {
					t.Fatalf("Address(%v): %d", x, e)
				}
			})
		}
	}
}

// P19.2
func TestLoad(t *testing.T) {
	for n, at := range []uint32{0x10000, 0x10010, data, heapAt, heapEnd - 4, heapEnd, top, top - 4, fp, stackEnd - 4} {
		for _, w := range numbers {
			words := map[uint32]uint32{at: uint32(w)}
			many := n % 4
			if at == top-4 {
				many = 0
			}
			trial{operands: []int32{int32(at)}, do: (*item.Gen).Load, words: words, want: w}.check(t, many, uint32(n))
		}
	}
}

// P19.2: several in a row follow what they load.
func TestLoadTwice(t *testing.T) {
	words := map[uint32]uint32{data: heapEnd, heapEnd: data + 8, data + 8: 99}
	trial{operands: []int32{data}, do: func(g *item.Gen) {
		g.Load()
		g.Load()
		g.Load()
	}, words: words, want: 99}.checkAll(t)
}

// P19.2
func TestStore(t *testing.T) {
	for n, at := range []uint32{0x10010, data, heapAt, heapEnd - 4, heapEnd, top, fp, stackEnd - 4} {
		for _, w := range numbers {
			changes := map[uint32]uint32{at: uint32(w)}
			trial{operands: []int32{int32(at), w}, do: (*item.Gen).Store, want: w, changes: changes}.check(t, n%4, uint32(n))
		}
	}
}

// P19.2: Store removes the waiting value alone.
func TestStoreRemoves(t *testing.T) {
	g := item.New()
	sentinels(g, 2)
	g.Number(0, data)
	g.Wait()
	g.Store()
	if g.Depth() != 2 {
		t.Errorf("%d values wait behind Store, not 2", g.Depth())
	}
}

// product returns where an element is.
func product(at, n int32, size int) int32 { return int32(int64(at) + int64(n)*int64(int32(size))) }

// P19.2
func TestIndex(t *testing.T) {
	lengths := []int{1, 2, 3, 10, 255, 256, 4095, 4096, 16383, 16384, 32767, 32768, 65534, 65535, 65536, 65537, 100000, 1 << 20, greatest - 1, greatest}
	for n, length := range lengths {
		for _, size := range []int{0, 1, 4, 8, 100, 16380, 16384, 32768, 65536} {
			for _, value := range []int{least, -1 << 16, -2, -1, 0, 1, length / 2, length - 1, length, length + 1, greatest} {
				if value > greatest {
					continue
				}
				at := numbers[(n+size)%len(numbers)]
				x := trial{operands: []int32{at, int32(value)}, do: func(g *item.Gen) { g.Index(length, size) }}
				if value < 0 || value >= length {
					x.cause = api.Index
				} else {
					x.want = product(at, int32(value), size)
				}
				x.check(t, n%4, uint32(value))
			}
		}
	}
}

// P19.2: each element of an array has its place.
func TestIndexAll(t *testing.T) {
	for n := range 20 {
		for _, length := range []int{n + 1, n + 7} {
			trial{operands: []int32{data, int32(n)}, do: func(g *item.Gen) { g.Index(length, 12) }, want: int32(data + 12*n)}.check(t, 1, uint32(n))
		}
		trial{operands: []int32{data, int32(n)}, do: func(g *item.Gen) { g.Index(n, 12) }, cause: api.Index}.check(t, 1, uint32(n))
	}
}

// P19.2: no value is from 0 to a length - 1 that is below 0; all that aren't negative are where the length is above all of them.
func TestIndexFar(t *testing.T) {
	for _, value := range numbers {
		for _, length := range []int{0, -1, -5, -65536, math.MinInt32, math.MinInt32 - 1, math.MinInt} {
			trial{operands: []int32{data, value}, do: func(g *item.Gen) { g.Index(length, 4) }, cause: api.Index}.check(t, 1, 0)
		}
		for _, length := range []int{greatest + 1, math.MaxUint32, 1<<32 + 1, math.MaxInt} {
			x := trial{operands: []int32{data, value}, do: func(g *item.Gen) { g.Index(length, 4) }, want: product(data, value, 4)}
			if value < 0 {
				x.cause = api.Index
			}
			x.check(t, 1, 0)
		}
	}
}

// P19.2: what waits below the array stays in order.
func TestIndexTwice(t *testing.T) {
	g := item.New()
	sentinels(g, 1)
	g.Number(0, data)
	g.Wait()
	g.Number(0, 3)
	g.Index(4, 40)
	g.Wait()
	g.Number(0, 9)
	g.Index(10, 4)
	ended(g)
	r := played(t, g, setup{})
	r.halted()
	r.value(data + 3*40 + 9*4)
	if g.Depth() != 1 {
		t.Errorf("%d values wait, not 1", g.Depth())
	}
}

// P19.2
func TestField(t *testing.T) {
	for n, offset := range []int{0, 4, 8, 100, 16380, 16384, 32764, 32767, 32768, 65535, 65536, 1 << 20, greatest - 1, greatest, -4, -32768, -32769, least} {
		for _, at := range numbers {
			trial{operands: []int32{at}, do: func(g *item.Gen) { g.Field(offset) }, want: at + int32(offset)}.check(t, n%3, uint32(n))
		}
	}
}

// P19.2
func TestDeref(t *testing.T) {
	for n, at := range append([]int32{data, heapAt, 4}, numbers...) {
		x := trial{operands: []int32{at}, do: (*item.Gen).Deref, want: at}
		if at == 0 {
			x.cause = api.NilRef
		}
		x.check(t, n%4, uint32(n))
	}
}

var (
	binary = []string{"+", "-", "*", "DIV", "MOD", "=", "#", "<", "<=", ">", ">="}
	unary  = []string{"-", "NOT", "ODD", "ORD", "CHR"}
)

func truth(b bool) int64 {
	if b {
		return 1
	}
	return 0
}

// floor returns a quotient that is rounded down.
func floor(a, b int64) int64 {
	q := a / b
	if q*b != a && (a < 0) != (b < 0) {
		q--
	}
	return q
}

// model returns what Two must make of two numbers; false if they can't be divided.
func model(sign string, a, b int64) (int32, bool) {
	if b == 0 && (sign == "DIV" || sign == "MOD") {
		return 0, false
	}
	n := int64(0)
	switch sign {
	case "+":
		n = a + b
	case "-":
		n = a - b
	case "*":
		n = a * b
	case "DIV":
		n = floor(a, b)
	case "MOD":
		n = a - b*floor(a, b)
	case "=":
		n = truth(a == b)
	case "#":
		n = truth(a != b)
	case "<":
		n = truth(a < b)
	case "<=":
		n = truth(a <= b)
	case ">":
		n = truth(a > b)
	case ">=":
		n = truth(a >= b)
	}
	return int32(n), true
}

// two returns code for Two.
func two(t *testing.T, sign string) func(g *item.Gen) {
	return func(g *item.Gen) {
		if e := g.Two(sign); e != api.OK {
			t.Fatalf("Two(%s): %d", sign, e)
		}
	}
}

// one returns code for One.
func one(t *testing.T, sign string) func(g *item.Gen) {
	return func(g *item.Gen) {
		if e := g.One(sign); e != api.OK {
			t.Fatalf("One(%s): %d", sign, e)
		}
	}
}

// P19.3
func TestTwo(t *testing.T) {
	for n, sign := range binary {
		for _, a := range numbers {
			for _, b := range numbers {
				want, ok := model(sign, int64(a), int64(b))
				x := trial{operands: []int32{a, b}, do: two(t, sign), want: want}
				if !ok {
					x.cause = api.DivZero
				}
				x.check(t, n%3, uint32(n))
			}
		}
	}
}

// P19.3: the results are those of constants.
func TestTwoAsKonst(t *testing.T) {
	next := random(7)
	for _, sign := range binary {
		for n := range 60 {
			a, b := int32(next())>>(next()%32), int32(next())>>(next()%32)
			v, e := konst.Two(sign, konst.Value{Type: api.Int, N: a}, konst.Value{Type: api.Int, N: b})
			x := trial{operands: []int32{a, b}, do: two(t, sign), want: v.N}
			if e == api.ErrZero {
				x.cause = api.DivZero
			}
			x.check(t, n%4, next())
		}
	}
}

// P19.3
func TestTwoExamples(t *testing.T) {
	for _, x := range []struct {
		sign       string
		a, b, want int32
	}{
		{"DIV", 7, -2, -4}, {"DIV", -7, 2, -4}, {"DIV", 7, 2, 3}, {"DIV", -7, -2, 3}, {"DIV", least, -1, least},
		{"MOD", 7, -2, -1}, {"MOD", -7, 2, 1}, {"MOD", 7, 2, 1}, {"MOD", -7, -2, -1}, {"MOD", least, -1, 0},
		{"+", greatest, 1, least}, {"-", least, 1, greatest}, {"*", greatest, 2, -2}, {"*", least, -1, least},
		{"-", 3, 5, -2}, {"<", 3, 5, 1}, {"<", 5, 3, 0}, {"<", 5, 5, 0}, {"<=", 5, 5, 1}, {"<=", 5, 3, 0},
		{">", 3, 5, 0}, {">", 5, 3, 1}, {">", 5, 5, 0}, {">=", 5, 5, 1}, {">=", 3, 5, 0}, {"<", -1, 0, 1}, {">", least, greatest, 0},
		{"=", 5, 5, 1}, {"=", 5, 6, 0}, {"#", 5, 5, 0}, {"#", 5, 6, 1},
	} {
		trial{operands: []int32{x.a, x.b}, do: two(t, x.sign), want: x.want}.checkAll(t)
	}
}

// P19.3: what waits below the left operand is the left one of the next operation.
func TestTwoTwice(t *testing.T) {
	trial{operands: []int32{100, 7, 3}, do: func(g *item.Gen) {
		g.Two("-")
		g.Two("DIV")
	}, want: 25}.checkAll(t)
}

// wrong returns texts that are no signs beside those that are left out.
func wrong(right []string) []string {
	list := []string{"", " ", "++", "--", "+ ", " +", "div", "Div", "mod", "DI", "DIVI", "MODE", "<>", "==", "=<", "=>", "><", "!=", "/", "%", "&", "OR", "AND", "and", "or", "XOR", "not", "Not", "NO", "odd", "ORDER", "chr", "LEN", "ABS", ":=", "^", ".", "[", "(", "TRUE", "ADD", "SUB", "\x00", "+\x00", "÷", "\xff", strings.Repeat("+", 1000)}
	list = append(append(list, binary...), unary...)
	return slices.DeleteFunc(list, func(s string) bool { return slices.Contains(right, s) })
}

// P19.3
func TestTwoUnknown(t *testing.T) {
	for _, sign := range wrong(binary) {
		writesNothing(t, func(g *item.Gen) {
			if e := g.Two(sign); e != api.ErrUnknown {
				t.Fatalf("Two(%q): %d", sign, e)
			}
		})
	}
}

// P19.3
func TestOneUnknown(t *testing.T) {
	for _, sign := range wrong(unary) {
		writesNothing(t, func(g *item.Gen) {
			if e := g.One(sign); e != api.ErrUnknown {
				t.Fatalf("One(%q): %d", sign, e)
			}
		})
	}
}

// P19.3
func TestOne(t *testing.T) {
	for n, a := range append([]int32{64, 65, 254, 255, 256, 257, -255, -256}, numbers...) {
		for _, x := range []struct {
			sign string
			want int64
		}{{"-", -int64(a)}, {"ODD", int64(a) & 1}, {"ORD", int64(a)}, {"CHR", int64(a)}} {
			y := trial{operands: []int32{a}, do: one(t, x.sign), want: int32(x.want)}
			if x.sign == "CHR" && (a < 0 || a > 255) {
				y.cause = api.Range
			}
			y.check(t, n%4, uint32(n))
		}
	}
	for a := range int32(2) {
		trial{operands: []int32{a}, do: one(t, "NOT"), want: 1 - a}.checkAll(t)
	}
}

// P19.3: all characters.
func TestOneCharacters(t *testing.T) {
	for a := range int32(256) {
		trial{operands: []int32{a}, do: one(t, "CHR"), want: a}.check(t, 1, uint32(a))
	}
}

// exceptions are objects of exceptions: without a fixup if their Module is below 0.
var exceptions = []scope.Object{
	{Module: -1}, {Module: -1, N: 1}, {Module: -1, N: 8}, {Module: -1, N: 32767}, {Module: -1, N: 32768}, {Module: -1, N: 65535}, {Module: -1, N: 65536},
	{Module: -1, N: 100000}, {Module: -1, N: greatest}, {Module: -1, N: -1}, {Module: -1, N: -32768}, {Module: -1, N: -32769}, {Module: -1, N: least},
	{Module: -2, N: 5}, {Module: -64, N: 70000}, {Module: math.MinInt, N: 3},
	{Module: 0}, {Module: 0, N: 1}, {Module: 0, N: 4095}, {Module: 1}, {Module: 1, N: 7}, {Module: 3, N: 4095}, {Module: 64}, {Module: 64, N: 4095},
}

// raised returns the number of an exception, and the fixups that it needs.
func raised(x scope.Object) (int32, []api.Fixup) {
	if x.Module < 0 {
		return x.N, nil
	}
	return int32(exception(x.Module, int(x.N))), []api.Fixup{{Kind: api.FixExc, Module: x.Module, Value: int(x.N)}}
}

// P19.6
func TestException(t *testing.T) {
	for n, x := range exceptions {
		x.Name, x.Kind = "x", api.ObjExc
		number, fixups := raised(x)
		for a := range 13 {
			g := item.New()
			sentinels(g, n)
			g.Exception(x, a)
			ended(g)
			if g.Depth() != n {
				t.Fatalf("%d values wait, not %d", g.Depth(), n)
			}
			r := played(t, g, setup{seed: uint32(a)})
			r.halted()
			if got := int32(r.R[a]); got != number {
				t.Fatalf("Exception(%v, %d): %d, not %d", x, a, got, number)
			}
			changes, at := waiting(n)
			r.stored(at, changes)
			r.stack(at)
			for k := 1; k < item.SP; k++ {
				if k != a {
					r.kept(k)
				}
			}
			trial{fixups: fixups}.checkFixups(t, g)
		}
	}
}

// P19.6: the value stays where another register gets the number.
func TestExceptionKeepsTheValue(t *testing.T) {
	for _, x := range exceptions {
		number, fixups := raised(x)
		trial{operands: []int32{77}, do: func(g *item.Gen) {
			g.Exception(x, 1)
			g.Exception(x, 2)
		}, want: 77, fixups: append(slices.Clone(fixups), fixups...)}.checkAll(t)
		trial{operands: []int32{77}, do: func(g *item.Gen) { g.Exception(x, 0) }, want: number, fixups: fixups}.checkAll(t)
	}
}

// P19.6
func TestRaise(t *testing.T) {
	for _, x := range exceptions {
		x.Name, x.Kind = "x", api.ObjExc
		number, fixups := raised(x)
		if number == 0 {
			continue // a trial asks for a trap by its cause
		}
		trial{operands: []int32{77}, do: func(g *item.Gen) { g.Raise(x) }, cause: uint32(number), fixups: fixups}.checkAll(t)
	}
}

// P19.6: the word that traps is the last one that Raise wrote, so that the handler that is in effect there is found.
func TestRaiseWhere(t *testing.T) {
	for _, x := range exceptions {
		g := item.New()
		g.Number(0, 5)
		from := g.Here()
		g.Raise(x)
		to := g.Here()
		ended(g)
		r := played(t, g, setup{})
		number, _ := raised(x)
		r.trapped(uint32(number))
		if at := int(r.EPC / 4); at < from || at >= to || r.EPC%4 != 0 {
			t.Errorf("Raise(%v) traps at the word %d, not from %d to %d", x, at, from, to-1)
		}
	}
}

// ports are those that there can be.
var ports = []int{0, 1, 2, 3, 4, 5, 6, 7, 255, 256, 32767, 32768, 65534, 65535}

// P19.6
func TestOut(t *testing.T) {
	for _, port := range ports {
		for _, n := range numbers {
			for many := range 3 {
				g := item.New()
				sentinels(g, many)
				g.Number(0, n)
				g.Out(port)
				g.Out(port)
				ended(g)
				r := played(t, g, setup{seed: uint32(many)})
				r.halted()
				r.value(n)
				r.events(api.Event{Port: port, Value: n}, api.Event{Port: port, Value: n})
				changes, at := waiting(many)
				r.stored(at, changes)
				r.stack(at)
				r.kept(others...)
			}
		}
	}
}

// P19.6
func TestLog(t *testing.T) {
	for _, port := range ports {
		for _, n := range append([]int32{64, 64*4096 + 3}, numbers...) {
			for many := range 3 {
				g := item.New()
				sentinels(g, many)
				g.Number(0, 77)
				g.Log(port, int(n))
				g.Out(port)
				ended(g)
				if g.Depth() != many {
					t.Fatalf("%d values wait, not %d", g.Depth(), many)
				}
				r := played(t, g, setup{seed: uint32(many)})
				r.halted()
				r.value(77)
				r.events(api.Event{Port: port, Value: n}, api.Event{Port: port, Value: 77})
				changes, at := waiting(many)
				r.stored(at, changes)
				r.stack(at)
				r.kept(others...)
			}
		}
	}
}

// P19.6: there are no ports below 0, and none above 65535.
func TestNoPort(t *testing.T) {
	for _, port := range []int{math.MinInt, -1, 65536, math.MaxInt} {
		g := item.New()
		g.Out(port)
		failed(t, g, api.ErrField)
		g = item.New()
		g.Log(port, 1)
		failed(t, g, api.ErrField)
	}
}

// The example of the chapter.
func TestExample(t *testing.T) {
	g := item.New()
	g.Number(0, 7)
	g.Wait()
	g.Number(0, -2)
	if e := g.Two("DIV"); e != api.OK {
		t.Fatalf("Two: %d", e)
	}
	ended(g)
	r := played(t, g, setup{})
	r.halted()
	r.value(-4)
	r.stack(top)
}

// P1: no call panics, or goes on for ever, whatever numbers it gets.
func TestFar(t *testing.T) {
	for _, n := range far {
		for _, m := range far {
			x := scope.Object{Kind: api.ObjParam, Level: n, N: int32(m), Module: m}
			for _, do := range []func(g *item.Gen){
				func(g *item.Gen) { g.Base(m) },
				func(g *item.Gen) { g.Link(m) },
				func(g *item.Gen) { g.Address(x) },
				func(g *item.Gen) { g.Index(n, m) },
				func(g *item.Gen) { g.Field(n); g.Leave(n); g.Cell(n); g.Out(n); g.Log(n, m) },
				func(g *item.Gen) { g.Raise(x); g.Exception(x, n); g.Call(x) },
				func(g *item.Gen) {
					g.Enter(&frame.Frame{Size: n})
					g.Drop(m)
					g.Reset()
					g.Done()
				},
			} {
				g := item.New()
				g.Level = n
				do(g)
				g.Finish()
			}
		}
	}
}

// P1: nor do they where nothing was begun, or no room is left.
func TestWithoutRoom(t *testing.T) {
	g := item.New()
	g.Done()
	g.Reset()
	g.Leave(1)
	g.Done()
	g.Store()
	g.Two("+")
	g.Index(3, 4)
	g.Cell(4)
	for g.Here() < full {
		ended(g)
	}
	failed(t, g, api.OK)
	g.Enter(&frame.Frame{})
	g.Wait()
	g.Cell(4)
	g.Call(scope.Object{N: 4})
	g.Reset()
	g.Leave(2)
	g.Done()
	failed(t, g, api.ErrCode)
	if g.Here() != full {
		t.Errorf("%d words", g.Here())
	}
}

// P2
func TestArgumentsStay(t *testing.T) {
	params := make([]api.Param, 2, 5)
	params[1] = api.Param{Type: api.Int, Ref: true}
	spare := slices.Clone(params[:5])
	x := scope.Object{Name: "x", Kind: api.ObjProc, Type: api.Int, Level: 1, N: 3, Params: params}
	f := frame.Frame{Size: 40}
	g := item.New()
	g.Enter(&f)
	g.Link(1)
	g.Call(x)
	g.Address(x)
	x.Kind = api.ObjRef
	g.Address(x)
	g.Raise(x)
	g.Reset()
	g.Done()
	if f.Size != 40 || !slices.Equal(params[:5], spare) {
		t.Errorf("the Size %d, the Params %v", f.Size, params[:5])
	}
	r := finished(t, g)
	f.Size = 80
	params[0].Type = 9
	if again := finished(t, g); !slices.Equal(again.Words, r.Words) {
		t.Errorf("later changes of what was handed in show")
	}
}

// Rule 4: what is returned depends on the calls alone.
func TestSameCallsSameWords(t *testing.T) {
	write := func() []uint32 {
		g := item.New()
		var f frame.Frame
		g.Enter(&f)
		f.Local(8)
		g.Level = 2
		g.Address(scope.Object{Kind: api.ObjParam, Level: 1, N: 16})
		g.Wait()
		g.Number(0, 3)
		g.Index(5, 4)
		g.Reset()
		g.Leave(1)
		g.Done()
		return finished(t, g).Words
	}
	if a, b := write(), write(); !slices.Equal(a, b) {
		t.Errorf("%x, then %x", a, b)
	}
}

// words that instr can't decode would be no code at all.
func TestInstructions(t *testing.T) {
	g := item.New()
	var f frame.Frame
	g.Enter(&f)
	f.Local(16384)
	g.Cell(100000)
	g.Index(1<<20, 1<<20)
	g.Field(1 << 20)
	g.Leave(16)
	g.Done()
	for at, w := range finished(t, g).Words {
		if _, e := instr.Decode(w); e != api.OK {
			t.Errorf("the word %d, %08x, is no instruction", at, w)
		}
	}
}
