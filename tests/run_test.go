package tests

import (
	"fmt"
	"math"
	"slices"
	"testing"

	"loop.example/s01513/impl"
)

// runAsTold does Run in the document's words.
func runAsTold(m impl.Machine, fuel int) (impl.Machine, impl.Outcome) {
	o := impl.Outcome{Kind: 3}
	for o.Kind == 3 && o.Used < fuel && o.Used < 2000 {
		var did, n int
		m, did, n = tickAsTold(m)
		o.Used++
		switch did {
		case impl.DidStop:
			o.Kind, o.Value = 1, n
		case impl.DidFault:
			o.Kind, o.Value = 2, n
		}
	}
	o.Out = m.Mem.Out
	return m, o
}

func sameOutcome(a impl.Outcome, b impl.Outcome) bool {
	return a.Kind == b.Kind && a.Value == b.Value && a.Used == b.Used && slices.Equal(a.Out, b.Out)
}

// runAnswer is all that Run answers.
type runAnswer struct {
	Machine impl.Machine
	Outcome impl.Outcome
}

// checkedRun runs a machine; what is given is not changed, and the answer is new memory.
func checkedRun(t *testing.T, m impl.Machine, fuel int) (impl.Machine, impl.Outcome) {
	t.Helper()
	before := cloneMachine(m)
	got, o := impl.Run(m, fuel)
	wantState(t, fmt.Sprint("run of ", fuel), m, before, got, got)
	wantNewMemory(t, runAnswer{got, o}, m)
	if !slices.Equal(o.Out, got.Mem.Out) {
		t.Fatalf("run of %d of %s: the Outs differ: %v and %v", fuel, stateOf(before), o.Out, got.Mem.Out)
	}
	return got, o
}

// wantRun wants a run as told, tick by tick.
func wantRun(t *testing.T, m impl.Machine, fuel int) (impl.Machine, impl.Outcome) {
	t.Helper()
	want, wantOutcome := runAsTold(cloneMachine(m), fuel)
	got, o := checkedRun(t, m, fuel)
	if !sameOutcome(o, wantOutcome) || !sameMachine(got, want) {
		t.Fatalf("run of %d of %s: %v %s, not %v %s", fuel, stateOf(m), o, stateOf(got), wantOutcome, stateOf(want))
	}
	return got, o
}

// wantEnd wants a run that ends in a way that is written out.
func wantEnd(t *testing.T, what string, m impl.Machine, fuel int, want impl.Outcome) impl.Machine {
	t.Helper()
	got, o := checkedRun(t, m, fuel)
	if !sameOutcome(o, want) {
		t.Errorf("%s: run of %d: %v, not %v", what, fuel, o, want)
	}
	return got
}

// low gives the Imm of an instruction that widens it to a number.
func low(v int) int {
	return wrapped(v) % 65536
}

// loaded gives the machine that Load makes of modules.
func loaded(t *testing.T, mods []impl.Module, c impl.Config) impl.Machine {
	t.Helper()
	m, code, at := impl.Load(imagesOf(mods), c)
	if code != 0 || at != 0 {
		t.Fatalf("%v: not loaded: %d %d", c, code, at)
	}
	return m
}

// begun gives the machine that Begin makes ready.
func begun(t *testing.T, m impl.Machine, name string, args ...int) impl.Machine {
	t.Helper()
	got, ok := impl.Begin(m, name, args)
	if !ok {
		t.Fatalf("%s is not begun", name)
	}
	return got
}

// eachBeginning does a test with the words in Text, in a bank in flash, and in a bank in a slot, begun at a word.
func eachBeginning(t *testing.T, words []int, at int, args []int, do func(m impl.Machine)) {
	t.Helper()
	mods := tickProgram(words...)
	mods[1].Exports = []impl.Export{{Name: "text", Bank: -1, At: at}, {Name: "bank", Bank: 0, At: at}}
	for slots := 0; slots <= 2; slots++ {
		m := loaded(t, mods, impl.Config{Slots: slots, Words: 16, Stack: 64, Depth: 2})
		do(begun(t, m, "here.text", args...))
		do(begun(t, m, "here.bank", args...))
	}
}

// countWords puts register 0 out and takes 1 from it until it is 0, then does the last words.
// Begun at word 3 it comes to these after 3 + 4 * register 0 ticks, begun ahead of that a tick later for each word.
func countWords(last ...int) []int {
	nop := ins(impl.OpMove, 4, 4, 0)
	words := []int{
		nop, nop, nop,
		ins(impl.OpSet, 2, 0, 0), ins(impl.OpHigh, 2, 0, 2),
		ins(impl.OpZero, 0, 0, 3), ins(impl.OpStoreB, 0, 2, 0), ins(impl.OpNear, 0, 0, low(-1)), ins(impl.OpJump, 0, 0, low(-4)),
	}
	return append(words, last...)
}

// countEnd stops with 77 after two ticks.
func countEnd() []int {
	return []int{ins(impl.OpSet, 0, 0, 77), ins(impl.OpStop, 0, 0, 0)}
}

// TestRunInPlainNumbers has a program of 17 ticks, with fuel below, of and above what it needs.
func TestRunInPlainNumbers(t *testing.T) {
	eachBeginning(t, countWords(countEnd()...), 3, []int{3}, func(m impl.Machine) {
		for _, c := range []struct {
			fuel, kind, value, used int
			out                     []byte
		}{
			{math.MinInt, impl.EndFuel, 0, 0, nil}, {-2000, impl.EndFuel, 0, 0, nil}, {-1, impl.EndFuel, 0, 0, nil}, {0, impl.EndFuel, 0, 0, nil}, {1, impl.EndFuel, 0, 1, nil}, {3, impl.EndFuel, 0, 3, nil},
			{4, impl.EndFuel, 0, 4, []byte{3}}, {5, impl.EndFuel, 0, 5, []byte{3}}, {8, impl.EndFuel, 0, 8, []byte{3, 2}}, {16, impl.EndFuel, 0, 16, []byte{3, 2, 1}},
			{17, impl.EndStop, 77, 17, []byte{3, 2, 1}}, {18, impl.EndStop, 77, 17, []byte{3, 2, 1}}, {1999, impl.EndStop, 77, 17, []byte{3, 2, 1}}, {2000, impl.EndStop, 77, 17, []byte{3, 2, 1}}, {2001, impl.EndStop, 77, 17, []byte{3, 2, 1}}, {math.MaxInt, impl.EndStop, 77, 17, []byte{3, 2, 1}},
		} {
			got := wantEnd(t, "counting", m, c.fuel, impl.Outcome{Kind: c.kind, Value: c.value, Used: c.used, Out: c.out})
			if c.used == 0 && !sameMachine(got, m) {
				t.Errorf("a run of %d changes the machine", c.fuel)
			}
			wantRun(t, m, c.fuel)
		}
	})
}

// TestRunOfMaxFuel has programs of 1999, 2000 and 2001 ticks, and one that does not end.
func TestRunOfMaxFuel(t *testing.T) {
	words := countWords(countEnd()...)
	for _, c := range []struct{ at, arg, needs int }{{1, 498, 1999}, {0, 498, 2000}, {3, 499, 2001}} {
		eachBeginning(t, words, c.at, []int{c.arg}, func(m impl.Machine) {
			for _, fuel := range []int{1998, 1999, 2000, 2001, 2002, 4001, math.MaxInt} {
				_, o := impl.Run(m, fuel)
				want := impl.Outcome{Kind: impl.EndFuel, Used: min(fuel, 2000)}
				if want.Used >= c.needs {
					want = impl.Outcome{Kind: impl.EndStop, Value: 77, Used: c.needs}
				}
				if o.Kind != want.Kind || o.Value != want.Value || o.Used != want.Used || len(o.Out) != c.arg {
					t.Errorf("a program of %d ticks, a run of %d: %d %d %d", c.needs, fuel, o.Kind, o.Value, o.Used)
				}
			}
		})
	}
	eachBeginning(t, []int{ins(impl.OpJump, 0, 0, 65535)}, 0, []int{5}, func(m impl.Machine) {
		for _, fuel := range []int{1, 2, 1999, 2000, 2001, math.MaxInt} {
			got := wantEnd(t, "on the spot", m, fuel, impl.Outcome{Kind: impl.EndFuel, Used: min(fuel, 2000)})
			if !sameMachine(got, m) {
				t.Errorf("%s", stateOf(got))
			}
		}
	})
}

// TestRunOfStops has a stop, a return from the first piece, and a stop in a call, which leaves the frames.
func TestRunOfStops(t *testing.T) {
	stop, back := ins(impl.OpStop, 0, 0, 0), ins(impl.OpReturn, 0, 0, 0)
	for _, c := range []struct {
		what         string
		words        []int
		used, frames int
	}{
		{"a stop", []int{stop}, 1, 0}, {"a return", []int{back}, 1, 0},
		{"a return behind a call", []int{ins(impl.OpCall, 0, 0, 0), back}, 3, 0},
		{"a stop in a call", []int{ins(impl.OpCall, 0, 0, 1), back, stop}, 2, 1},
		{"a stop in a call of a call", []int{ins(impl.OpCall, 0, 0, 1), back, ins(impl.OpCall, 0, 0, 0), stop}, 3, 2},
		{"a return from an import", []int{ins(impl.OpImport, 0, 0, 0), back}, 3, 0},
		{"a stop behind an import", []int{ins(impl.OpImport, 0, 0, 1), stop}, 3, 0},
	} {
		for _, value := range []int{0, 1, 2147483648, 4294967295} {
			eachBeginning(t, c.words, 0, []int{value}, func(m impl.Machine) {
				for _, fuel := range []int{c.used, c.used + 1, 2000} {
					got := wantEnd(t, c.what, m, fuel, impl.Outcome{Kind: impl.EndStop, Value: value, Used: c.used})
					if len(got.Shadow) != c.frames {
						t.Errorf("%s: %s", c.what, stateOf(got))
					}
				}
				wantEnd(t, c.what, m, c.used-1, impl.Outcome{Kind: impl.EndFuel, Used: c.used - 1})
				wantRun(t, m, 50)
			})
		}
	}
}

// TestRunGivesTheBaseBack has a register 7 that the program changed: in what it calls it is the address of the data, behind that it is as it was.
func TestRunGivesTheBaseBack(t *testing.T) {
	for _, call := range []int{ins(impl.OpCall, 0, 0, 2), ins(impl.OpImport, 0, 0, 1)} {
		words := []int{ins(impl.OpSet, 7, 0, 9), call, ins(impl.OpMove, 0, 7, 0), ins(impl.OpStop, 0, 0, 0), ins(impl.OpMove, 1, 7, 0), ins(impl.OpReturn, 0, 0, 0)}
		eachBeginning(t, words, 0, []int{1, 2}, func(m impl.Machine) {
			want, seen := impl.Outcome{Kind: impl.EndStop, Value: 9, Used: 6}, 65568
			if call == ins(impl.OpImport, 0, 0, 1) {
				want.Used, seen = 5, 2
			}
			got := wantEnd(t, "register 7", m, 100, want)
			if got.Core.Regs[7] != 9 || got.Core.Regs[1] != seen {
				t.Errorf("%s", stateOf(got))
			}
			inside := wantEnd(t, "in the call", m, 2, impl.Outcome{Kind: impl.EndFuel, Used: 2})
			if inside.Core.Regs[7] != layoutAsTold(m.Mods, m.Config).Places[inside.Mod].Data {
				t.Errorf("%s", stateOf(inside))
			}
		})
	}
}

// TestRunBehindAStop goes on with the next word.
func TestRunBehindAStop(t *testing.T) {
	stop := ins(impl.OpStop, 0, 0, 0)
	eachBeginning(t, []int{stop, ins(impl.OpSet, 0, 0, 9), stop, stop}, 0, []int{4}, func(m impl.Machine) {
		m = wantEnd(t, "the first", m, 100, impl.Outcome{Kind: impl.EndStop, Value: 4, Used: 1})
		m = wantEnd(t, "the second", m, 100, impl.Outcome{Kind: impl.EndStop, Value: 9, Used: 2})
		m = wantEnd(t, "the third", m, 100, impl.Outcome{Kind: impl.EndStop, Value: 9, Used: 1})
		again := wantEnd(t, "zeros", m, 100, impl.Outcome{Kind: impl.EndFault, Value: impl.FaultDecode, Used: 1})
		if !sameMachine(again, m) {
			t.Errorf("a fault changes it: %s", stateOf(again))
		}
	})
}

// TestRunOfFaults has each fault that a program can have, at its first tick and later; the machine is as it was ahead of the tick with the fault.
func TestRunOfFaults(t *testing.T) {
	port := []int{ins(impl.OpSet, 5, 0, 0), ins(impl.OpHigh, 5, 0, 2)}
	for _, c := range []struct {
		what        string
		words       []int
		fault, used int
	}{
		{"no instruction", []int{0}, impl.FaultDecode, 1},
		{"behind the words", []int{ins(impl.OpMove, 4, 4, 0)}, impl.FaultDecode, 2},
		{"behind the piece", slices.Repeat([]int{ins(impl.OpMove, 4, 4, 0)}, 8), impl.FaultRegion, 9},
		{"a load between words", []int{ins(impl.OpLoadW, 0, 7, 2)}, impl.FaultAlign, 1},
		{"a store between words", []int{ins(impl.OpStoreH, 0, 7, 1)}, impl.FaultAlign, 1},
		{"a load from flash", []int{ins(impl.OpLoadB, 0, 5, 0)}, impl.FaultRegion, 1},
		{"a store into flash", []int{ins(impl.OpStoreW, 0, 5, 32)}, impl.FaultRegion, 1},
		{"a store behind the data", []int{ins(impl.OpStoreB, 0, 7, 63), ins(impl.OpStoreB, 0, 7, 64)}, impl.FaultRegion, 2},
		{"a store behind the stack", []int{ins(impl.OpStoreW, 0, 6, low(-64)), ins(impl.OpStoreW, 0, 6, low(-4)), ins(impl.OpStoreW, 0, 6, 0)}, impl.FaultRegion, 3},
		{"a load from Port", append(port, ins(impl.OpLoadB, 0, 5, 0)), impl.FaultRegion, 3},
		{"a store behind Port", append(port, ins(impl.OpStoreW, 0, 5, 4)), impl.FaultBus, 3},
		{"a call behind the piece", []int{ins(impl.OpCall, 0, 0, 1)}, impl.FaultRegion, 1},
		{"a call of itself", []int{ins(impl.OpCall, 0, 0, 65535)}, impl.FaultDepth, 3},
		{"no import", []int{ins(impl.OpImport, 0, 0, 0), ins(impl.OpImport, 0, 0, 2)}, impl.FaultImport, 3},
	} {
		eachBeginning(t, c.words, 0, nil, func(m impl.Machine) {
			ahead := wantEnd(t, c.what, m, c.used-1, impl.Outcome{Kind: impl.EndFuel, Used: c.used - 1})
			for _, fuel := range []int{c.used, c.used + 1, 2000, 2001} {
				got := wantEnd(t, c.what, m, fuel, impl.Outcome{Kind: impl.EndFault, Value: c.fault, Used: c.used})
				if !sameMachine(got, ahead) {
					t.Errorf("%s: %s, not %s", c.what, stateOf(got), stateOf(ahead))
				}
			}
			again := wantEnd(t, c.what, ahead, 7, impl.Outcome{Kind: impl.EndFault, Value: c.fault, Used: 1})
			if !sameMachine(again, ahead) {
				t.Errorf("%s: %s", c.what, stateOf(again))
			}
			wantRun(t, m, 50)
		})
	}
}

// TestRunPutsBehindWhatIsOut has an Out from an earlier run, which stands ahead of what comes, up to MaxOut.
func TestRunPutsBehindWhatIsOut(t *testing.T) {
	eachBeginning(t, countWords(countEnd()...), 3, []int{3}, func(m impl.Machine) {
		for _, had := range []int{0, 1, 3, 4996, 4997} {
			m.Mem.Out = numbered(had, 9)
			want := append(numbered(had, 9), 3, 2, 1)
			wantEnd(t, "room for all", m, 100, impl.Outcome{Kind: impl.EndStop, Value: 77, Used: 17, Out: want})
			wantEnd(t, "one byte", m, 4, impl.Outcome{Kind: impl.EndFuel, Used: 4, Out: want[:had+1]})
			wantEnd(t, "none", m, 0, impl.Outcome{Kind: impl.EndFuel, Out: want[:had]})
		}
		for _, had := range []int{4998, 4999, 5000} {
			m.Mem.Out = numbered(had, 9)
			want := append(numbered(had, 9), 3, 2)[:5000]
			got := wantEnd(t, "no room", m, 100, impl.Outcome{Kind: impl.EndFault, Value: impl.FaultPort, Used: 4 + 4*(5000-had), Out: want})
			if !impl.MachineOk(got) {
				t.Errorf("not valid")
			}
		}
	})
}

// TestRunFillsTheOutput has runs of MaxFuel one after the other until there is no more room.
func TestRunFillsTheOutput(t *testing.T) {
	eachBeginning(t, []int{ins(impl.OpStoreB, 0, 1, 0), ins(impl.OpJump, 0, 0, low(-2))}, 0, []int{65, 131072}, func(m impl.Machine) {
		var o impl.Outcome
		for i := range 5 {
			m, o = impl.Run(m, impl.MaxFuel)
			if o.Kind != impl.EndFuel || o.Used != 2000 || len(o.Out) != 1000*(i+1) || len(m.Mem.Out) != len(o.Out) {
				t.Fatalf("run %d: %d %d %d", i, o.Kind, o.Used, len(o.Out))
			}
		}
		m, o = impl.Run(m, impl.MaxFuel)
		if o.Kind != impl.EndFault || o.Value != impl.FaultPort || o.Used != 1 || string(o.Out) != string(slices.Repeat([]byte{65}, 5000)) || !impl.MachineOk(m) {
			t.Errorf("%d %d %d %d", o.Kind, o.Value, o.Used, len(o.Out))
		}
	})
}

// TestRunSharesNothing writes into all that Run answers, and into what it was given.
func TestRunSharesNothing(t *testing.T) {
	eachBeginning(t, countWords(countEnd()...), 3, []int{3}, func(m impl.Machine) {
		m.Mem.Out = append(make([]byte, 0, 900), 1, 2)
		bad := cloneMachine(m)
		bad.Turn = -1
		for _, given := range []impl.Machine{m, bad} {
			for _, fuel := range []int{0, 9, 100} {
				got, o := checkedRun(t, given, fuel)
				kept := cloneMachine(got)
				for i := range o.Out {
					o.Out[i] = 255
				}
				o.Out = append(o.Out, 255)
				if !sameMachine(got, kept) {
					t.Errorf("Out of the Outcome is that of the machine")
				}
				clear(got.Mem.Ram)
				clear(got.Mem.Out)
				clear(got.Core.Regs)
				if again, _ := impl.Run(given, fuel); !sameMachine(again, kept) {
					t.Errorf("the answer is that of the machine given")
				}
			}
		}
	})
}

// runFuels are below 0, the least, around the greatest, and the greatest of all.
func runFuels() []int {
	return []int{math.MinInt, -1, 0, 1, 2, 1999, 2000, 2001, math.MaxInt}
}

// TestRunOfInvalidMachines has the fault of the first tick if there is fuel, and gives them back as they are.
func TestRunOfInvalidMachines(t *testing.T) {
	busy := busyMachine(t)
	for _, bad := range append(badMachines(), badMachine{"nothing", func(m *impl.Machine) { *m = impl.Machine{} }}) {
		m := cloneMachine(busy)
		bad.change(&m)
		for _, fuel := range runFuels() {
			want := impl.Outcome{Kind: impl.EndFault, Value: impl.FaultBus, Used: 1, Out: m.Mem.Out}
			if fuel <= 0 {
				want = impl.Outcome{Kind: impl.EndFuel, Out: m.Mem.Out}
			}
			if got := wantEnd(t, bad.what, m, fuel, want); !sameMachine(got, m) {
				t.Errorf("%s: the machine is not as given", bad.what)
			}
		}
		wantRun(t, m, 0)
		wantRun(t, m, 1)
	}
}

// TestRunAtTheLastTurn has a valid machine at which each tick is a fault.
func TestRunAtTheLastTurn(t *testing.T) {
	for _, word := range []int{ins(impl.OpStop, 0, 0, 0), ins(impl.OpReturn, 0, 0, 0), ins(impl.OpSet, 1, 0, 1), ins(impl.OpCall, 0, 0, 0), ins(impl.OpImport, 0, 0, 0), 0} {
		eachBeginning(t, []int{word, ins(impl.OpStop, 0, 0, 0)}, 0, []int{1}, func(m impl.Machine) {
			m.Turn = lastTurn
			m.Mem.Out = []byte{6}
			for _, fuel := range runFuels() {
				want := impl.Outcome{Kind: impl.EndFault, Value: impl.FaultBus, Used: 1, Out: []byte{6}}
				if fuel <= 0 {
					want = impl.Outcome{Kind: impl.EndFuel, Out: []byte{6}}
				}
				if got := wantEnd(t, "the last turn", m, fuel, want); !sameMachine(got, m) || !impl.MachineOk(got) {
					t.Errorf("%s", stateOf(got))
				}
			}
		})
	}
}

// TestRunUpToTheLastTurn comes to the last Turn by a call, an import or a return; the tick behind it is a fault, whatever it would do.
func TestRunUpToTheLastTurn(t *testing.T) {
	words := []int{ins(impl.OpCall, 0, 0, 1), ins(impl.OpStop, 0, 0, 0), ins(impl.OpImport, 0, 0, 1), ins(impl.OpReturn, 0, 0, 0)}
	// The ticks after which a bank has been entered once, twice and so on: call, import, its return, return.
	entries := []int{1, 2, 3, 4}
	mods := tickProgram(words...)
	mods[1].Exports = []impl.Export{{Name: "text", Bank: -1}, {Name: "bank", Bank: 0}}
	for slots := 0; slots <= 4; slots++ {
		m := loaded(t, mods, impl.Config{Slots: slots, Words: 9, Depth: 2})
		for left := 1; left <= 5; left++ {
			bank := begun(t, m, "here.bank", 8)
			bank.Turn = lastTurn - left
			want := impl.Outcome{Kind: impl.EndStop, Value: 8, Used: 5}
			if slots > 0 && left <= 4 {
				want = impl.Outcome{Kind: impl.EndFault, Value: impl.FaultBus, Used: entries[left-1] + 1}
			}
			got := wantEnd(t, fmt.Sprint(slots, " slots, ", left, " turns left"), bank, 100, want)
			if grown := slots > 0; grown != (got.Turn == min(lastTurn, lastTurn-left+4)) || !impl.MachineOk(got) {
				t.Errorf("%d slots, %d turns left: %s", slots, left, stateOf(got))
			}
			wantEnd(t, "without the tick behind it", bank, want.Used-1, impl.Outcome{Kind: impl.EndFuel, Used: want.Used - 1})
			wantRun(t, bank, 100)
			// From the Text it is the import alone that enters a bank.
			text := begun(t, m, "here.text", 8)
			text.Turn = lastTurn - left
			want = impl.Outcome{Kind: impl.EndStop, Value: 8, Used: 5}
			if slots > 0 && left == 1 {
				want = impl.Outcome{Kind: impl.EndFault, Value: impl.FaultBus, Used: 3}
			}
			wantEnd(t, fmt.Sprint("text, ", slots, " slots, ", left, " turns left"), text, 100, want)
			wantRun(t, text, 100)
		}
	}
}

// partPrograms are machines of which some stop, some fault and some do not end.
func partPrograms(t *testing.T) []impl.Machine {
	var all []impl.Machine
	keep := func(m impl.Machine) { all = append(all, m) }
	stop := ins(impl.OpStop, 0, 0, 0)
	eachBeginning(t, countWords(countEnd()...), 3, []int{2}, keep)
	eachBeginning(t, countWords(ins(impl.OpImport, 0, 0, 0), ins(impl.OpImport, 0, 0, 1), ins(impl.OpStoreW, 2, 7, 0), stop), 3, []int{2}, keep)
	eachBeginning(t, countWords(ins(impl.OpCall, 0, 0, 65535)), 3, []int{1}, keep)
	eachBeginning(t, []int{0}, 0, nil, keep)
	eachBeginning(t, []int{stop}, 0, nil, keep)
	eachBeginning(t, []int{ins(impl.OpImport, 0, 0, 1), ins(impl.OpNear, 0, 0, 1), ins(impl.OpStoreH, 0, 6, low(-8)), ins(impl.OpJump, 0, 0, low(-4))}, 0, nil, keep)
	late := loaded(t, tickProgram(stop), impl.Config{Slots: 1, Words: 9, Depth: 2})
	late, _ = impl.Enter(late, impl.Target{Mod: 0, Bank: 0})
	late.Shadow = []impl.Frame{{Mod: 2, Bank: 0}, {Mod: 2, Bank: 0}}
	late.Turn = lastTurn - 1
	wrong := cloneMachine(late)
	wrong.Core.Pc = -1
	return append(all, late, wrong)
}

// wantParts is promise 11: a run of a and then of b ticks is one of both together, when the first ended with EndFuel.
func wantParts(t *testing.T, m impl.Machine, a int, b int) bool {
	t.Helper()
	middle, first := impl.Run(m, a)
	if first.Kind != impl.EndFuel {
		return false
	}
	got, second := impl.Run(middle, b)
	want, whole := impl.Run(m, a+b)
	second.Used += first.Used
	if !sameOutcome(second, whole) || !sameMachine(got, want) {
		t.Fatalf("%s: run of %d and of %d: %v %s, not %v %s", stateOf(m), a, b, second, stateOf(got), whole, stateOf(want))
	}
	return true
}

// TestRunInTwoParts parts runs at every place where they can be parted.
func TestRunInTwoParts(t *testing.T) {
	for i, m := range partPrograms(t) {
		parted := 0
		for a := range 25 {
			for b := range 25 {
				if wantParts(t, m, a, b) {
					parted++
				}
			}
		}
		places := 25
		if _, o := impl.Run(m, 24); o.Kind != impl.EndFuel {
			places = o.Used
		}
		if parted != 25*places {
			t.Errorf("program %d: parted %d times", i, parted)
		}
		for _, a := range []int{0, 1, 2, 999, 1000, 1998, 1999, 2000} {
			wantParts(t, m, a, 2000-a)
			wantParts(t, m, a, (2000-a)/2)
		}
	}
}

// TestRunTickByTick has runs of one tick, which are ticks.
func TestRunTickByTick(t *testing.T) {
	for i, m := range partPrograms(t) {
		want, whole := impl.Run(m, 40)
		for n := range 40 {
			tick, did, _ := impl.Tick(m)
			next, o := impl.Run(m, 1)
			if !sameMachine(next, tick) || o.Used != 1 || (o.Kind == impl.EndFuel) == (did == impl.DidStop || did == impl.DidFault) {
				t.Fatalf("program %d, tick %d: %v %s, not %s", i, n, o, stateOf(next), stateOf(tick))
			}
			m = next
			if o.Kind != impl.EndFuel {
				o.Used = n + 1
				if !sameOutcome(o, whole) {
					t.Errorf("program %d: %v, not %v", i, o, whole)
				}
				break
			}
		}
		if !sameMachine(m, want) {
			t.Errorf("program %d: %s, not %s", i, stateOf(m), stateOf(want))
		}
	}
}

// TestRunsOfManyPrograms has runs as told and in parts, whatever the programs do.
func TestRunsOfManyPrograms(t *testing.T) {
	d := new(dice)
	ends := map[int]int{}
	for range 200 {
		p := d.machine()
		m := loaded(t, p.Mods, p.Config)
		for _, mod := range m.Mods {
			export := mod.Exports[d.below(len(mod.Exports))]
			m = begun(t, m, mod.Name+"."+export.Name, d.word(), d.word())
			fuel := d.below(20)
			after, o := wantRun(t, m, fuel)
			ends[o.Kind]++
			for a := range o.Used {
				if !wantParts(t, m, a, fuel-a) || !wantParts(t, m, a, d.below(50)) {
					t.Fatalf("%s: run of %d ends ahead of %d", stateOf(m), a, o.Used)
				}
			}
			m = after
		}
	}
	for kind := impl.EndStop; kind <= impl.EndFuel; kind++ {
		if ends[kind] < 20 {
			t.Errorf("%d runs have the end %d", ends[kind], kind)
		}
	}
}
