package tests

import (
	"fmt"
	"slices"
	"testing"

	"loop.example/s01513/impl"
)

// piece is a piece of the web: a letter that it puts out, and the pieces that it calls.
type piece struct {
	letter        byte
	mod, bank     int
	first, second string
}

// webPieces has three modules; they call their own banks and those of others, most of them in more than one way.
func webPieces() map[string]piece {
	return map[string]piece{
		"p.a": {'A', 0, 0, "p.b", "q.d"}, "p.b": {'B', 0, 1, "p.c", "p.a"}, "p.c": {'C', 0, 2, "q.t", "q.e"},
		"q.t": {'T', 1, -1, "r.f", "p.b"}, "q.d": {'D', 1, 0, "q.e", "q.e"}, "q.e": {'E', 1, 1, "r.u", "p.c"},
		"r.u": {'U', 2, -1, "q.d", "r.f"}, "r.f": {'F', 2, 0, "p.a", "r.u"},
	}
}

// webNames are the pieces in one order.
func webNames() []string {
	return []string{"p.a", "p.b", "p.c", "q.t", "q.d", "q.e", "r.u", "r.f"}
}

// visitWords puts a letter out, lays it on the stack, and calls two pieces unless register 0, with 1 taken from it, is below 0;
// then it takes the letter from the stack and puts it out as a small one. It counts in the module's data, if it is to.
func visitWords(letter byte, first int, second int, counts bool, more int) []int {
	words := []int{ins(impl.OpSet, 2, 0, 0), ins(impl.OpHigh, 2, 0, 2), ins(impl.OpSet, 1, 0, int(letter)), ins(impl.OpStoreB, 1, 2, 0)}
	if counts {
		words = append(words, ins(impl.OpLoadW, 3, 7, 0), ins(impl.OpNear, 3, 3, 1), ins(impl.OpStoreW, 3, 7, 0))
	}
	words = append(words,
		ins(impl.OpNear, 6, 6, low(-4)), ins(impl.OpStoreW, 1, 6, 0),
		ins(impl.OpNear, 0, 0, low(-1)), ins(impl.OpMinus, 0, 0, 2), ins(impl.OpImport, 0, 0, first), ins(impl.OpImport, 0, 0, second),
		ins(impl.OpLoadW, 1, 6, 0), ins(impl.OpNear, 6, 6, 4),
		ins(impl.OpNear, 1, 1, 32), ins(impl.OpSet, 2, 0, 0), ins(impl.OpHigh, 2, 0, 2), ins(impl.OpStoreB, 1, 2, 0),
	)
	for range more {
		words = append(words, ins(impl.OpMove, 4, 4, 0))
	}
	return append(words, ins(impl.OpReturn, 0, 0, 0))
}

// webProgram has the pieces in modules, of different lengths.
func webProgram(counts bool) []impl.Module {
	mods := []impl.Module{
		{Name: "p", Banks: make([][]int, 3), Data: make([]byte, 4)},
		{Name: "q", Banks: make([][]int, 2), Data: make([]byte, 4), Bss: 40},
		{Name: "r", Banks: make([][]int, 1), Data: make([]byte, 40)},
	}
	for i, name := range webNames() {
		at := webPieces()[name]
		m := &mods[at.mod]
		n := len(m.Imports)
		m.Imports = append(m.Imports, at.first, at.second)
		m.Exports = append(m.Exports, impl.Export{Name: name[2:], Bank: at.bank})
		words := visitWords(at.letter, n, n+1, counts, i)
		if at.bank == -1 {
			m.Text = words
		} else {
			m.Banks[at.bank] = words
		}
	}
	return mods
}

// visited gives what a piece of the web puts out, with all that it calls; left is register 0.
func visited(name string, left *int) string {
	at := webPieces()[name]
	out := string(at.letter)
	*left--
	if *left >= 0 {
		out += visited(at.first, left)
		out += visited(at.second, left)
	}
	return out + string(at.letter+32)
}

// webConfigs have the same Stack and Depth, no slots, and up to four of different lengths.
func webConfigs(stack int, depth int) []impl.Config {
	all := []impl.Config{{Words: 1, Stack: stack, Depth: depth}}
	for slots := 1; slots <= 4; slots++ {
		for _, words := range []int{27, 33, 64} {
			all = append(all, impl.Config{Slots: slots, Words: words, Stack: stack, Depth: depth})
		}
	}
	return all
}

// modulesData gives the bytes of the modules' data.
func modulesData(m impl.Machine) []byte {
	return m.Mem.Ram[:layoutAsTold(m.Mods, m.Config).Stack-65536]
}

// dataAndStack gives the bytes of the modules' data and of the stack.
func dataAndStack(m impl.Machine) []byte {
	return m.Mem.Ram[:len(modulesData(m))+m.Config.Stack]
}

// wantSameRun is promise 12 for two machines that were begun in the same way.
func wantSameRun(t *testing.T, what string, a impl.Machine, b impl.Machine, fuel int) (impl.Machine, impl.Machine, impl.Outcome) {
	t.Helper()
	afterA, outcomeA := impl.Run(a, fuel)
	afterB, outcomeB := impl.Run(b, fuel)
	if !sameOutcome(outcomeA, outcomeB) {
		t.Fatalf("%s: %v with %v, %v with %v", what, outcomeA, a.Config, outcomeB, b.Config)
	}
	if !slices.Equal(dataAndStack(afterA), dataAndStack(afterB)) {
		t.Fatalf("%s: %v and %v have other data or another stack", what, a.Config, b.Config)
	}
	return afterA, afterB, outcomeA
}

// TestWebInPlainLetters has the program that the other tests of slots use.
func TestWebInPlainLetters(t *testing.T) {
	for _, c := range webConfigs(64, 20) {
		m := loaded(t, webProgram(true), c)
		got, o := impl.Run(begun(t, m, "p.a", 0), 2000)
		if o.Kind != impl.EndStop || o.Value != 4294967295 || o.Used != 18 || string(o.Out) != "Aa" || got.Mem.Ram[0] != 1 {
			t.Errorf("%v: %v", c, o)
		}
		got, o = impl.Run(begun(t, m, "p.a", 2), 2000)
		if o.Kind != impl.EndStop || string(o.Out) != "ABCcAabDda" || got.Mem.Ram[0] != 4 || got.Mem.Ram[32] != 1 || got.Mem.Ram[96] != 0 {
			t.Errorf("%v: %v %q", c, o, o.Out)
		}
	}
}

// TestSlotsDoNotMatter is promise 12: calls between banks of one module and of several, with fewer slots than banks,
// and returns to banks that were put out of their slots.
func TestSlotsDoNotMatter(t *testing.T) {
	swaps := map[int]int{}
	for _, c := range webConfigs(64, 100) {
		flat := loaded(t, webProgram(true), impl.Config{Words: 64, Stack: 64, Depth: 100})
		m := loaded(t, webProgram(true), c)
		for _, name := range webNames() {
			for n := range 14 {
				_, after, o := wantSameRun(t, fmt.Sprint(name, " ", n), begun(t, flat, name, n), begun(t, m, name, n), 2000)
				left := n
				if want := visited(name, &left); o.Kind != impl.EndStop || string(o.Out) != want || int32(o.Value) != int32(left) {
					t.Fatalf("%s %d: %v %q, not %q", name, n, o, o.Out, want)
				}
				if c.Slots > 0 && after.Turn < 2*n || c.Slots == 0 && after.Turn != 0 {
					t.Errorf("%v: %s %d: Turn %d", c, name, n, after.Turn)
				}
				swaps[c.Slots] += after.Turn
			}
		}
	}
	for slots := 1; slots <= 4; slots++ {
		if swaps[slots] < 2000 {
			t.Errorf("%d slots: %d entries of banks", slots, swaps[slots])
		}
	}
}

// TestSlotsDoNotMatterForEnds is promise 12 for runs that end in a fault of depth or of the stack, or at any tick.
func TestSlotsDoNotMatterForEnds(t *testing.T) {
	faults := map[int]int{}
	for _, limit := range []struct{ stack, depth int }{{64, 0}, {64, 1}, {64, 3}, {32, 100}, {0, 100}} {
		for _, c := range webConfigs(limit.stack, limit.depth) {
			flat := loaded(t, webProgram(true), impl.Config{Words: 64, Stack: limit.stack, Depth: limit.depth})
			m := loaded(t, webProgram(true), c)
			for _, name := range webNames() {
				_, _, o := wantSameRun(t, name, begun(t, flat, name, 20), begun(t, m, name, 20), 2000)
				if o.Kind == impl.EndFault {
					faults[o.Value]++
				}
			}
		}
	}
	for _, fault := range []int{impl.FaultDepth, impl.FaultRegion} {
		if faults[fault] < 50 {
			t.Errorf("fault %d comes %d times", fault, faults[fault])
		}
	}
	flat := begun(t, loaded(t, webProgram(true), webConfig(0)), "q.e", 3)
	for slots := 1; slots <= 4; slots++ {
		m := begun(t, loaded(t, webProgram(true), webConfig(slots)), "q.e", 3)
		for fuel := range 180 {
			wantSameRun(t, "q.e", flat, m, fuel)
		}
	}
}

// webConfig gives a configuration in which the web runs.
func webConfig(slots int) impl.Config {
	return impl.Config{Slots: slots, Words: 27, Stack: 96, Depth: 30}
}

// TestSlotsDoNotMatterForManyBeginnings has one beginning after the other, which leave their data and their banks to the next.
func TestSlotsDoNotMatterForManyBeginnings(t *testing.T) {
	for slots := 1; slots <= 4; slots++ {
		flat, m := loaded(t, webProgram(true), webConfig(0)), loaded(t, webProgram(true), webConfig(slots))
		for i := range 60 {
			name := webNames()[i*i%7]
			flat, m, _ = wantSameRun(t, fmt.Sprint(name, " ", i), begun(t, flat, name, i%9), begun(t, m, name, i%9), i*i%400)
		}
		if !impl.MachineOk(m) {
			t.Errorf("%s", stateOf(m))
		}
	}
}

// endsAround tells how a run ends whose first word jumps or calls to another word of a bank of n words:
// each word but the last adds 1 to register 0, the last one stops.
func endsAround(op int, n int, to int, depth int) impl.Outcome {
	calls := op == impl.OpCall
	switch room := rounded(4*n) / 4; {
	case calls && (to < 0 || to > n):
		return impl.Outcome{Kind: impl.EndFault, Value: impl.FaultRegion, Used: 1}
	case to < 0 || to >= room:
		return impl.Outcome{Kind: impl.EndFault, Value: impl.FaultRegion, Used: 2}
	case to >= n:
		return impl.Outcome{Kind: impl.EndFault, Value: impl.FaultDecode, Used: 2}
	case to == 0 && calls:
		return impl.Outcome{Kind: impl.EndFault, Value: impl.FaultDepth, Used: depth + 1}
	case to == 0:
		return impl.Outcome{Kind: impl.EndFuel, Used: 60}
	}
	value := n - 1 - to
	if op == impl.OpMinus {
		value += 1 << 31
	}
	return impl.Outcome{Kind: impl.EndStop, Value: value, Used: 1 + n - to}
}

// aroundProgram has a bank that jumps or calls from its first word to another one, between banks and a Text that are full of stops.
func aroundProgram(op int, n int, to int) []impl.Module {
	words := slices.Repeat([]int{ins(impl.OpNear, 0, 0, 1)}, n)
	words[n-1] = ins(impl.OpStop, 0, 0, 0)
	words[0] = ins(op, 0, 0, low(to-1))
	full := slices.Repeat([]int{ins(impl.OpStop, 0, 0, 0)}, 16)
	return []impl.Module{
		{Name: "a", Text: full, Banks: [][]int{full, words, full}, Data: numbered(64, 3), Exports: []impl.Export{{Name: "x", Bank: 0}, {Name: "here", Bank: 1}, {Name: "y", Bank: 2}}},
		{Name: "b", Text: full, Banks: [][]int{full}, Exports: []impl.Export{{Name: "z", Bank: 0}}},
	}
}

// TestAroundAPiece has jumps and calls ahead of a bank, to its ends, into the zeros behind it, and behind these,
// with slots that are as long as the bank needs and longer ones, and with other banks in the slots beside it.
func TestAroundAPiece(t *testing.T) {
	for _, op := range []int{impl.OpJump, impl.OpZero, impl.OpMinus, impl.OpCall} {
		for _, n := range []int{2, 7, 8, 9, 16} {
			for _, to := range []int{-32767, -65, -32, -17, -16, -9, -8, -2, -1, 0, 1, n - 1, n, n + 1, rounded(4*n)/4 - 1, rounded(4*n) / 4, rounded(4*n)/4 + 1, 16, 17, 24, 25, 31, 32, 33, 40, 64, 32768} {
				mods := aroundProgram(op, n, to)
				want := endsAround(op, n, to, 3)
				for slots := range 5 {
					for _, words := range []int{16, 32} {
						wantAround(t, loaded(t, mods, impl.Config{Slots: slots, Words: words, Stack: 32, Depth: 3}), op, want)
					}
				}
			}
		}
	}
}

// wantAround wants that the bank ends in one way, whichever banks came into slots ahead of it.
func wantAround(t *testing.T, m impl.Machine, op int, want impl.Outcome) {
	t.Helper()
	arg := 0
	if op == impl.OpMinus {
		arg = 1 << 31
	}
	for _, names := range [][]string{nil, {"a.x", "a.here", "b.z", "a.y"}, {"b.z", "a.x", "a.y"}} {
		used := m
		for _, name := range names {
			used, _ = impl.Run(begun(t, used, name), 3)
		}
		_, o := impl.Run(begun(t, used, "a.here", arg), 60)
		if !sameOutcome(o, want) {
			t.Fatalf("%v behind %v, %v: %v, not %v", m.Mods[0].Banks[1], names, m.Config, o, want)
		}
	}
}

// TestSlotsDoNotMatterForManyPrograms is promise 12, whatever the programs do.
func TestSlotsDoNotMatterForManyPrograms(t *testing.T) {
	d := new(dice)
	ends := map[int]int{}
	for range 300 {
		p := d.machine()
		c := p.Config
		c.Slots = 0
		flat := loaded(t, p.Mods, c)
		for c.Slots = 1; c.Slots <= 4; c.Slots++ {
			c.Words = 12 + d.below(53)
			m, code, _ := impl.Load(imagesOf(p.Mods), c)
			if code != 0 {
				t.Fatalf("%v: %d", c, code)
			}
			a, b := flat, m
			for _, mod := range p.Mods {
				for _, export := range mod.Exports {
					name, args := mod.Name+"."+export.Name, []int{d.word(), d.word(), -d.word()}
					var o impl.Outcome
					a, b, o = wantSameRun(t, name, begun(t, a, name, args...), begun(t, b, name, args...), d.below(200))
					ends[o.Kind]++
				}
			}
		}
	}
	for kind := impl.EndStop; kind <= impl.EndFuel; kind++ {
		if ends[kind] < 100 {
			t.Errorf("%d runs have the end %d", ends[kind], kind)
		}
	}
}

// tracesProgram has entries that leave traces, each one of all kinds but in data, and entries that would show them.
// It stands beside the web, whose pieces do not count here.
func tracesProgram() []impl.Module {
	stop, back := ins(impl.OpStop, 0, 0, 0), ins(impl.OpReturn, 0, 0, 0)
	var marks []int
	for i := range 6 {
		marks = append(marks, ins(impl.OpSet, i, 0, 60000+i))
	}
	// marks registers and the stack, puts out, and calls itself as often as it can
	leave := append(marks, ins(impl.OpSet, 5, 0, 0), ins(impl.OpHigh, 5, 0, 2), ins(impl.OpStoreB, 4, 5, 0), ins(impl.OpNear, 6, 6, low(-4)), ins(impl.OpStoreW, 4, 6, 0), ins(impl.OpImport, 0, 0, 0))
	// the same, but it stays in the last call
	stay := []int{ins(impl.OpStoreW, 6, 6, low(-4)), ins(impl.OpStoreW, 6, 6, low(-64)), ins(impl.OpImport, 0, 0, 2), ins(impl.OpJump, 0, 0, 65535)}
	var sum []int
	for i := 1; i < 8; i++ {
		sum = append(sum, ins(impl.OpAdd, 0, i, 0))
	}
	stack := []int{ins(impl.OpSet, 3, 0, 16), ins(impl.OpNear, 6, 6, low(-4)), ins(impl.OpLoadW, 4, 6, 0), ins(impl.OpOr, 0, 4, 0), ins(impl.OpNear, 3, 3, low(-1)), ins(impl.OpZero, 3, 0, 1), ins(impl.OpJump, 0, 0, low(-6)), stop}
	depth := []int{ins(impl.OpZero, 0, 0, 2), ins(impl.OpNear, 0, 0, low(-1)), ins(impl.OpImport, 0, 0, 1), back}
	put := []int{ins(impl.OpStoreB, 0, 1, 0), stop}
	s := impl.Module{
		Name: "s", Text: slices.Concat(append(sum, stop), put), Banks: [][]int{leave, stay, append(sum, stop), slices.Concat(stack, depth)}, Data: numbered(8, 1), Imports: []string{"s.leave", "s.depth", "s.spin"},
		Exports: []impl.Export{{Name: "leave", Bank: 0}, {Name: "stay", Bank: 1}, {Name: "spin", Bank: 1, At: 3}, {Name: "sum", Bank: 2}, {Name: "stack", Bank: 3}, {Name: "depth", Bank: 3, At: 8}, {Name: "text", Bank: -1}, {Name: "put", Bank: -1, At: 8}},
	}
	return append(webProgram(false), s)
}

// entry is a beginning and the run behind it.
type entry struct {
	name string
	args []int
	fuel int
}

// tracesBefore are entries that change no data.
func tracesBefore() []entry {
	return []entry{
		{"s.leave", nil, 300}, {"s.leave", nil, 17}, {"s.leave", []int{1, 2, 3, 4}, 5}, {"s.stay", nil, 100}, {"s.stay", nil, 3}, {"s.spin", []int{9, 9}, 100}, {"s.put", []int{65, 131072}, 9}, {"s.put", []int{65, 3}, 9},
		{"s.depth", []int{3}, 2000}, {"s.depth", []int{4}, 2000}, {"p.a", []int{2}, 2000}, {"q.t", []int{1}, 37}, {"r.f", []int{6}, 111}, {"p.c", nil, 0}, {"q.e", nil, -1},
	}
}

// tracesShown are entries that would end in another way if a trace were left, and how they end.
func tracesShown(m impl.Machine) map[string]impl.Outcome {
	l := layoutAsTold(m.Mods, m.Config)
	bases := l.Stack + 64 + l.Places[3].Data
	return map[string]impl.Outcome{
		"s.sum": {Kind: impl.EndStop, Value: bases + 3, Used: 8}, "s.text": {Kind: impl.EndStop, Value: bases + 3, Used: 8}, "s.stack": {Kind: impl.EndStop, Value: 3, Used: 97},
		"s.depth": {Kind: impl.EndStop, Value: 0, Used: 14}, "p.b": {Kind: impl.EndStop, Value: 4294967292, Used: 130, Out: []byte("BCTFfBbtEecAab")},
	}
}

// TestBeginForgetsInPlainNumbers is promise 14 for entries whose ends are written out: on a new machine,
// and on one on which each of the others was begun and run before.
func TestBeginForgetsInPlainNumbers(t *testing.T) {
	for slots := range 5 {
		m := loaded(t, tracesProgram(), impl.Config{Slots: slots, Words: 27, Stack: 64, Depth: 3})
		for name, want := range tracesShown(m) {
			for _, before := range append(tracesBefore(), entry{name, []int{3}, 7}, entry{name, []int{3}, 2000}) {
				used, _ := impl.Run(begun(t, m, before.name, before.args...), before.fuel)
				for _, machine := range []impl.Machine{m, used} {
					_, o := impl.Run(begun(t, machine, name, 3), 2000)
					if !sameOutcome(o, want) {
						t.Fatalf("%d slots, %s behind %v: %v %q, not %v", slots, name, before, o, o.Out, want)
					}
				}
			}
		}
	}
}

// leftTraces counts which traces a machine has.
func leftTraces(m impl.Machine, counts map[string]int) {
	for what, left := range map[string]bool{
		"shadow": len(m.Shadow) > 0, "out": len(m.Mem.Out) > 0, "registers": slices.Max(m.Core.Regs[1:6]) > 0,
		"stack": slices.Max(dataAndStack(m)[len(modulesData(m)):]) > 0, "slots": m.Turn > len(m.Slots),
	} {
		if left {
			counts[what]++
		}
	}
}

// TestBeginForgets is promise 14: two entries ahead of a third, in every order.
func TestBeginForgets(t *testing.T) {
	counts := map[string]int{}
	for slots := range 5 {
		m := loaded(t, tracesProgram(), impl.Config{Slots: slots, Words: 27, Stack: 64, Depth: 3})
		for _, last := range tracesBefore() {
			_, want := impl.Run(begun(t, m, last.name, last.args...), last.fuel)
			for _, first := range tracesBefore() {
				once, _ := impl.Run(begun(t, m, first.name, first.args...), first.fuel)
				for _, second := range tracesBefore() {
					used, _ := impl.Run(begun(t, once, second.name, second.args...), second.fuel)
					if !slices.Equal(modulesData(used), modulesData(m)) {
						t.Fatalf("%v changes data", second)
					}
					leftTraces(used, counts)
					if _, o := impl.Run(begun(t, used, last.name, last.args...), last.fuel); !sameOutcome(o, want) {
						t.Fatalf("%d slots, %v behind %v and %v: %v, not %v", slots, last, first, second, o, want)
					}
				}
			}
		}
	}
	for _, what := range []string{"shadow", "out", "registers", "stack", "slots"} {
		if counts[what] < 100 {
			t.Errorf("%s: left %d times", what, counts[what])
		}
	}
}

// TestBeginForgetsAtLateTurns is promise 14 with a Turn up to the last one for which it is promised.
func TestBeginForgetsAtLateTurns(t *testing.T) {
	for slots := range 5 {
		m := loaded(t, tracesProgram(), impl.Config{Slots: slots, Words: 27, Stack: 64, Depth: 3})
		for _, last := range tracesBefore() {
			_, want := impl.Run(begun(t, m, last.name, last.args...), last.fuel)
			for _, turn := range []int{1, 1000, 899999999, 900000000} {
				late := cloneMachine(m)
				late.Turn = turn
				if _, o := impl.Run(begun(t, late, last.name, last.args...), last.fuel); !sameOutcome(o, want) {
					t.Fatalf("%d slots, Turn %d, %v: %v, not %v", slots, turn, last, o, want)
				}
				used, _ := impl.Run(begun(t, m, "s.leave"), 100)
				used.Turn = max(turn, used.Turn)
				if _, o := impl.Run(begun(t, used, last.name, last.args...), last.fuel); !sameOutcome(o, want) {
					t.Fatalf("%d slots, Turn %d, %v: %v, not %v", slots, used.Turn, last, o, want)
				}
			}
		}
	}
}

// TestBeginForgetsForManyPrograms is promise 14, whatever the programs do, where they change no data.
func TestBeginForgetsForManyPrograms(t *testing.T) {
	d := new(dice)
	asked := 0
	for range 400 {
		p := d.machine()
		m := loaded(t, p.Mods, p.Config)
		used := m
		for range 12 {
			mod := p.Mods[d.below(len(p.Mods))]
			name, args := mod.Name+"."+mod.Exports[d.below(len(mod.Exports))].Name, []int{d.word(), d.word()}
			fuel := d.below(100)
			after, o := impl.Run(begun(t, used, name, args...), fuel)
			if _, want := impl.Run(begun(t, m, name, args...), fuel); !sameOutcome(o, want) {
				t.Fatalf("%s %v behind others: %v, not %v", name, args, o, want)
			}
			asked++
			if slices.Equal(modulesData(after), modulesData(m)) {
				used = after
			}
		}
	}
	if asked < 1000 {
		t.Errorf("%d", asked)
	}
}
