package tests

import (
	"math"
	"slices"
	"testing"

	"loop.example/s01513/impl"
)

// tickProgram has one module with the words as its Text and as a bank, ahead of and behind others with data.
func tickProgram(words ...int) []impl.Module {
	end := ins(impl.OpReturn, 0, 0, 0)
	return []impl.Module{
		{Name: "ahead", Text: []int{end, end}, Data: numbered(32, 9), Banks: [][]int{{end}}, Exports: []impl.Export{{Name: "bank", Bank: 0}}},
		{Name: "here", Text: words, Banks: [][]int{words}, Data: numbered(40, 70), Bss: 8, Imports: []string{"behind.far", "ahead.bank"}},
		{Name: "behind", Banks: [][]int{{end, end, end, end, end, end, end, end, end}}, Data: numbered(32, 200), Exports: []impl.Export{{Name: "far", Bank: 0, At: 8}}},
	}
}

// tickMachine runs the module from a word on, in its Text or its bank.
func tickMachine(t *testing.T, slots int, bank int, at int, words ...int) impl.Machine {
	t.Helper()
	m := machineOf(tickProgram(words...), impl.Config{Slots: slots, Words: 10, Stack: 64, Depth: 2})
	m, ok := impl.Enter(m, impl.Target{Mod: 1, Bank: bank, At: at})
	if !ok {
		t.Fatal("not entered")
	}
	return m
}

// eachPiece does a test with the words in Text, in a bank in flash, and in a bank in a slot.
func eachPiece(t *testing.T, at int, words []int, do func(m impl.Machine)) {
	t.Helper()
	for slots := 0; slots <= 2; slots++ {
		for bank := -1; bank <= 0; bank++ {
			do(tickMachine(t, slots, bank, at, words...))
		}
	}
}

// wantDid wants a tick with this event and number, and gives the machine.
func wantDid(t *testing.T, m impl.Machine, did int, n int) impl.Machine {
	t.Helper()
	got, gotDid, gotN := wantTick(t, m)
	if gotDid != did || gotN != n {
		t.Errorf("%s: %d %d, not %d %d", stateOf(m), gotDid, gotN, did, n)
	}
	if did == impl.DidFault && !sameMachine(got, m) {
		t.Errorf("%s: a fault changes it", stateOf(m))
	}
	return got
}

func TestTickGoesAndStops(t *testing.T) {
	words := []int{ins(impl.OpSet, 0, 0, 777), ins(impl.OpHigh, 0, 0, 65535), ins(impl.OpStop, 0, 0, 0), ins(impl.OpJump, 0, 0, 65535)}
	eachPiece(t, 0, words, func(m impl.Machine) {
		origin := originNow(m)
		m = wantDid(t, m, impl.DidGo, 0)
		if m.Core.Pc != origin+4 || m.Core.Regs[0] != 777 {
			t.Errorf("%s", stateOf(m))
		}
		m = wantDid(t, m, impl.DidGo, 0)
		m = wantDid(t, m, impl.DidStop, 65535*65536+777)
		if m.Core.Pc != origin+12 || len(m.Shadow) != 0 {
			t.Errorf("%s", stateOf(m))
		}
		m = wantDid(t, m, impl.DidGo, 0)
		if m.Core.Pc != origin+12 {
			t.Errorf("%s", stateOf(m))
		}
		m.Shadow = []impl.Frame{{Bank: -1}}
		m.Core.Pc = origin + 8
		if m = wantDid(t, m, impl.DidStop, 65535*65536+777); len(m.Shadow) != 1 {
			t.Errorf("%s", stateOf(m))
		}
	})
}

// TestTickCalls has calls ahead of the piece, to each end of it, and behind it.
func TestTickCalls(t *testing.T) {
	for to := -4; to <= 8; to++ {
		words := slices.Repeat([]int{ins(impl.OpSet, 1, 0, 1)}, 4)
		words[2] = ins(impl.OpCall, 0, 0, wrapped(to-3)%65536)
		eachPiece(t, 2, words, func(m impl.Machine) {
			m.Core.Regs[7] = 99
			if to < 0 || to > 4 {
				wantDid(t, m, impl.DidFault, impl.FaultRegion)
				return
			}
			got := wantDid(t, m, impl.DidCall, 0)
			frame := impl.Frame{Mod: 1, Bank: m.Bank, At: 3, Base: 99}
			if got.Core.Pc != originNow(m)+4*to || !slices.Equal(got.Shadow, []impl.Frame{frame}) || got.Core.Regs[7] != 65568 || got.Mod != 1 || got.Bank != m.Bank {
				t.Errorf("to word %d: %s", to, stateOf(got))
			}
		})
	}
	for _, imm := range []int{32767, 32768, 32769, 65000} {
		eachPiece(t, 0, []int{ins(impl.OpCall, 0, 0, imm)}, func(m impl.Machine) { wantDid(t, m, impl.DidFault, impl.FaultRegion) })
	}
}

// TestTickCallsFromTheLastWord has a frame whose At is the number of words; what is gone back to is no word then.
func TestTickCallsFromTheLastWord(t *testing.T) {
	words := []int{ins(impl.OpReturn, 0, 0, 0), ins(impl.OpCall, 0, 0, 65534)}
	eachPiece(t, 1, words, func(m impl.Machine) {
		m = wantDid(t, m, impl.DidCall, 0)
		if m.Shadow[0].At != 2 {
			t.Errorf("%s", stateOf(m))
		}
		m = wantDid(t, m, impl.DidReturn, 0)
		if m.Core.Pc != originNow(m)+8 || len(m.Shadow) != 0 {
			t.Errorf("%s", stateOf(m))
		}
		wantDid(t, m, impl.DidFault, impl.FaultDecode)
	})
}

// TestTickImports has imports that are there, and numbers that are not; Imm is not widened.
func TestTickImports(t *testing.T) {
	for _, imm := range []int{0, 1, 2, 3, 15, 32768, 65535} {
		eachPiece(t, 1, []int{0, ins(impl.OpImport, 0, 0, imm), 0}, func(m impl.Machine) {
			if imm > 1 {
				wantDid(t, m, impl.DidFault, impl.FaultImport)
				return
			}
			m.Core.Regs[7] = 3
			got := wantDid(t, m, impl.DidImport, 0)
			want := []impl.Target{{Mod: 2, Bank: 0, At: 8}, {Mod: 0, Bank: 0, At: 0}}[imm]
			if got.Mod != want.Mod || got.Bank != 0 || got.Core.Pc != originNow(got)+4*want.At || got.Shadow[0] != (impl.Frame{Mod: 1, Bank: m.Bank, At: 2, Base: 3}) {
				t.Errorf("%s", stateOf(got))
			}
			back := wantDid(t, got, impl.DidReturn, 0)
			if back.Mod != 1 || back.Bank != m.Bank || back.Core.Pc != originNow(back)+8 || back.Core.Regs[7] != 3 {
				t.Errorf("%s", stateOf(back))
			}
		})
	}
}

// TestTickReturns has an empty shadow, at which a return stops with register 0.
func TestTickReturns(t *testing.T) {
	eachPiece(t, 0, []int{ins(impl.OpReturn, 0, 0, 0)}, func(m impl.Machine) {
		m.Core.Regs[0] = 4294967295
		got := wantDid(t, m, impl.DidStop, 4294967295)
		if got.Core.Pc != m.Core.Pc+4 || got.Core.Regs[7] != 65568 {
			t.Errorf("%s", stateOf(got))
		}
		m.Shadow = []impl.Frame{{Mod: 0, Bank: -1, At: 2, Base: 8}, {Mod: 2, Bank: 0, At: 9, Base: 4294967295}}
		got = wantDid(t, m, impl.DidReturn, 0)
		if got.Mod != 2 || got.Bank != 0 || got.Core.Pc != originNow(got)+36 || got.Core.Regs[7] != 4294967295 || len(got.Shadow) != 1 {
			t.Errorf("%s", stateOf(got))
		}
	})
}

// TestTickOfDepth has calls and imports with a full shadow, and with room for one frame.
func TestTickOfDepth(t *testing.T) {
	for _, word := range []int{ins(impl.OpCall, 0, 0, 0), ins(impl.OpImport, 0, 0, 1)} {
		eachPiece(t, 0, []int{word}, func(m impl.Machine) {
			m.Shadow = make([]impl.Frame, 2)
			wantDid(t, m, impl.DidFault, impl.FaultDepth)
			m.Config.Depth = 3
			did := impl.DidCall
			if word == ins(impl.OpImport, 0, 0, 1) {
				did = impl.DidImport
			}
			wantDid(t, m, did, 0)
			m.Config.Depth, m.Shadow = 0, nil
			wantDid(t, m, impl.DidFault, impl.FaultDepth)
		})
	}
}

// TestTickNamesTheFirstCode has a full shadow together with a call behind the piece, an import that is not there, and the last Turn.
func TestTickNamesTheFirstCode(t *testing.T) {
	for _, c := range []struct{ word, fault int }{
		{ins(impl.OpCall, 0, 0, 1), impl.FaultRegion}, {ins(impl.OpCall, 0, 0, 65534), impl.FaultRegion}, {ins(impl.OpImport, 0, 0, 2), impl.FaultImport}, {ins(impl.OpCall, 0, 0, 0), impl.FaultDepth},
	} {
		eachPiece(t, 0, []int{c.word}, func(m impl.Machine) {
			m.Shadow = make([]impl.Frame, 2)
			wantDid(t, m, impl.DidFault, c.fault)
			m.Turn = lastTurn
			wantDid(t, m, impl.DidFault, impl.FaultBus)
		})
	}
	for _, op := range []int{impl.OpStop, impl.OpReturn} {
		eachPiece(t, 0, []int{ins(op, 0, 0, 0)}, func(m impl.Machine) {
			m.Turn = lastTurn
			wantDid(t, m, impl.DidFault, impl.FaultBus)
			m.Turn = 999999999
			wantDid(t, m, impl.DidStop, m.Core.Regs[0])
		})
	}
}

// TestTickOfOtherPcs has a Pc in no word of the piece: in zeros behind it, in another piece, between words, at the ends of words.
func TestTickOfOtherPcs(t *testing.T) {
	words := slices.Repeat([]int{ins(impl.OpSet, 1, 0, 1)}, 9)
	eachPiece(t, 0, words, func(m impl.Machine) {
		origin := originNow(m)
		for _, c := range []struct{ pc, fault int }{
			{origin + 1, impl.FaultAlign}, {origin + 2, impl.FaultAlign}, {origin + 35, impl.FaultAlign}, {origin + 36, impl.FaultDecode}, {origin + 60, impl.FaultDecode}, {origin + 61, impl.FaultRegion}, {origin + 64, impl.FaultRegion},
			{0, impl.FaultRegion}, {65568, impl.FaultRegion}, {131072, impl.FaultRegion}, {wordEnd - 1, impl.FaultRegion}, {wordEnd - 4, impl.FaultRegion}, {origin - 4 + 65536, impl.FaultRegion},
		} {
			m.Core.Pc = c.pc
			wantDid(t, m, impl.DidFault, c.fault)
		}
	})
}

// TestTickStores is promise 10, one address after the other: what a store may change is the module's own data, the stack, and Port.
func TestTickStores(t *testing.T) {
	for _, c := range []struct{ op, size int }{{impl.OpStoreB, 1}, {impl.OpStoreH, 2}, {impl.OpStoreW, 4}} {
		eachPiece(t, 0, []int{ins(c.op, 2, 3, 0)}, func(m impl.Machine) {
			m.Core.Regs[2] = 0x81828384
			l := layoutAsTold(m.Mods, m.Config)
			stores := 0
			addresses := []int{0, 4, 31, 32, 64, l.Flash - 4, l.Flash, 65532, 131068, 131071, 131072, 131073, 131076, 131100, 131104, wordEnd - 4, wordEnd - 1}
			for i := -4; i <= l.Ram+4; i++ {
				addresses = append(addresses, 65536+i)
			}
			for _, at := range addresses {
				m.Core.Regs[3] = at
				before := cloneMem(m.Mem)
				got, did, n := impl.Tick(m)
				own := at >= 65568 && at+c.size <= 65632 || at >= 65664 && at+c.size <= 65728
				wantFault := 0
				switch {
				case !own && (at < 131072 || at+c.size > 131104):
					wantFault = impl.FaultRegion
				case at%c.size != 0:
					wantFault = impl.FaultAlign
				case !own && at != 131072:
					wantFault = impl.FaultBus
				}
				if n != wantFault || (did == impl.DidFault) != (wantFault != 0) {
					t.Fatalf("%d bytes at %d: %d %d, not %d", c.size, at, did, n, wantFault)
				}
				if wantFault == 0 {
					stores++
					before, _ = writeAsTold(before, at, c.size, 0x81828384)
				}
				if !sameMem(got.Mem, before) {
					t.Fatalf("%d bytes at %d: other bytes are changed", c.size, at)
				}
			}
			if stores != 128/c.size+1 {
				t.Errorf("%d stores of %d bytes", stores, c.size)
			}
		})
	}
}

// TestTickLoads has loads from what the module may read, from its code, from others, and from Port.
func TestTickLoads(t *testing.T) {
	eachPiece(t, 0, []int{ins(impl.OpLoadW, 2, 3, 0)}, func(m impl.Machine) {
		l := layoutAsTold(m.Mods, m.Config)
		for i := -8; i <= l.Ram+8; i += 4 {
			m.Core.Regs[3] = 65536 + i
			want, _ := readAsTold(m.Mem, 65536+i, 4)
			got, did, n := wantTick(t, m)
			own := i >= 32 && i < 96 || i >= 128 && i < 192
			if own && (did != impl.DidGo || got.Core.Regs[2] != want) || !own && (did != impl.DidFault || n != impl.FaultRegion) {
				t.Fatalf("at %d: %d %d", 65536+i, did, n)
			}
		}
		for _, at := range []int{0, 32, 131072, 131076} {
			m.Core.Regs[3] = at
			wantDid(t, m, impl.DidFault, impl.FaultRegion)
		}
	})
}

// TestTickOfAFullOutput has room for one byte, and then for none.
func TestTickOfAFullOutput(t *testing.T) {
	word := ins(impl.OpStoreB, 2, 3, 0)
	eachPiece(t, 0, []int{word, word}, func(m impl.Machine) {
		m.Core.Regs[3] = 131072
		m.Mem.Out = make([]byte, 4999)
		m = wantDid(t, m, impl.DidGo, 0)
		if len(m.Mem.Out) != 5000 || m.Mem.Out[4999] != byte(m.Core.Regs[2]) {
			t.Errorf("%d", len(m.Mem.Out))
		}
		wantDid(t, m, impl.DidFault, impl.FaultPort)
	})
}

// program gives words of which most do something, of a program with so many imports.
func (d *dice) program(n int, imports int) []int {
	ops := []int{impl.OpSet, impl.OpMove, impl.OpAdd, impl.OpNear, impl.OpSub, impl.OpMul, impl.OpXor, impl.OpRight}
	var words []int
	for range n {
		r, a := d.below(7), []int{6, 7, 7, d.below(8)}[d.below(4)]
		switch d.below(12) {
		case 0, 1:
			in := impl.Ins{Op: ops[d.below(len(ops))], D: d.below(7), A: d.below(8), Imm: d.below(65536)}
			if in.Op == impl.OpSet {
				in.A = 0
			} else if in.Op != impl.OpNear {
				in.Imm = 0
			}
			words = append(words, wordAsTold(in, 0))
		case 2, 3:
			words = append(words, ins(impl.OpStoreB+d.below(3), r, a, []int{4 * d.below(24), wrapped(-4*d.below(9)) % 65536}[d.below(2)]))
		case 4:
			words = append(words, ins(impl.OpLoadB+d.below(3), r, a, 4*d.below(8)))
		case 5, 6, 7:
			words = append(words, ins(impl.OpImport, 0, 0, d.below(imports+1)))
		case 8:
			words = append(words, ins(impl.OpCall, 0, 0, wrapped(d.below(2*n+2)-n)%65536))
		case 9:
			words = append(words, ins([]int{impl.OpZero, impl.OpMinus}[d.below(2)], r, 0, wrapped(d.below(2*n)-n)%65536))
		default:
			words = append(words, ins(impl.OpReturn, 0, 0, 0))
		}
	}
	return words
}

// machine gives a machine whose modules call each other's pieces.
func (d *dice) machine() impl.Machine {
	var mods []impl.Module
	names := []string{"a", "b", "c"}[:1+d.below(3)]
	for _, name := range names {
		m := impl.Module{Name: name, Text: d.program(1+d.below(10), 4), Data: make([]byte, d.below(40)), Bss: d.below(40)}
		m.Exports = []impl.Export{{Name: "t", Bank: -1, At: d.below(len(m.Text))}}
		for i := range 1 + d.below(4) {
			bank := d.program(1+d.below(12), 4)
			m.Banks = append(m.Banks, bank)
			m.Exports = append(m.Exports, impl.Export{Name: letters(1, i), Bank: i, At: d.below(len(bank))})
		}
		mods = append(mods, m)
	}
	for i := range mods {
		for range 4 {
			other := mods[d.below(len(mods))]
			mods[i].Imports = append(mods[i].Imports, other.Name+"."+other.Exports[d.below(len(other.Exports))].Name)
		}
	}
	return machineOf(mods, impl.Config{Slots: d.below(5), Words: 12 + d.below(6), Stack: 32 * d.below(4), Depth: d.below(6)})
}

// TestTicksOfManyPrograms is promises 9 and 10: every tick is as told, whatever the programs do.
func TestTicksOfManyPrograms(t *testing.T) {
	d := new(dice)
	events, faults := map[int]int{}, map[int]int{}
	swapped := 0
	for range 300 {
		m := d.machine()
		mod := d.below(len(m.Mods))
		bank := d.below(len(m.Mods[mod].Banks)+1) - 1
		m, ok := wantEnter(t, m, impl.Target{Mod: mod, Bank: bank})
		if !ok {
			t.Fatalf("%s is not valid", stateOf(m))
		}
		m.Core.Regs[6] = layoutAsTold(m.Mods, m.Config).Stack + m.Config.Stack
		for range 60 {
			next, did, n := wantTick(t, m)
			events[did]++
			if did == impl.DidFault {
				faults[n]++
				next.Core.Pc = wrapped(next.Core.Pc + 4*d.below(2))
				next, _ = wantEnter(t, next, impl.Target{Mod: d.below(len(m.Mods)), Bank: d.below(3) - 1, At: d.below(6)})
			}
			for i, s := range next.Slots {
				if old := m.Slots[i]; old.Used && (old.Mod != s.Mod || old.Bank != s.Bank) {
					swapped++
				}
			}
			m = next
		}
	}
	for did := impl.DidGo; did <= impl.DidFault; did++ {
		if events[did] < 50 {
			t.Errorf("event %d comes %d times", did, events[did])
		}
	}
	for _, fault := range []int{impl.FaultRegion, impl.FaultDepth, impl.FaultImport, impl.FaultDecode} {
		if faults[fault] < 10 {
			t.Errorf("fault %d comes %d times", fault, faults[fault])
		}
	}
	if swapped < 100 {
		t.Errorf("%d banks are put out of their slots", swapped)
	}
}

// TestManyCallsAndReturns does what no program does: any call, return and entry, one after the other, with a Pc of any kind.
func TestManyCallsAndReturns(t *testing.T) {
	d := new(dice)
	for range 100 {
		m := d.machine()
		for range 40 {
			mod := d.below(len(m.Mods)+1) - d.below(2)
			bank := d.below(5) - 1
			target := impl.Target{Mod: mod, Bank: bank, At: []int{0, 1, d.below(14), -1, math.MaxInt}[d.below(5)]}
			m.Core.Pc = []int{originNow(m), originNow(m) + 4*d.below(14), originNow(m) + d.below(50), d.word()}[d.below(4)]
			switch d.below(4) {
			case 0:
				m, _ = wantEnter(t, m, target)
			case 1:
				m, _ = wantReturn(t, m)
			default:
				m, _ = wantCall(t, m, target)
			}
			if d.below(40) == 0 && m.Turn > 0 {
				m.Turn = []int{lastTurn, lastTurn - 1, lastTurn - 2}[d.below(3)]
			}
		}
	}
}
