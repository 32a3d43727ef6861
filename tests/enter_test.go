package tests

import (
	"math"
	"slices"
	"testing"

	"loop.example/s01513/impl"
)

// someTargets are all targets around those that there are, and those at the ends of int.
func someTargets(mods []impl.Module) []impl.Target {
	var all []impl.Target
	for mod := -1; mod <= len(mods); mod++ {
		for bank := -2; bank <= 4; bank++ {
			words := 1
			if isIn(mods, mod, bank) {
				words = len(wordsOf(mods, mod, bank))
			}
			for _, at := range []int{math.MinInt, -4, -1, 0, 1, words - 1, words, words + 1, 4 * words, math.MaxInt / 4, math.MaxInt} {
				all = append(all, impl.Target{Mod: mod, Bank: bank, At: at})
			}
		}
	}
	for _, v := range []int{math.MinInt, math.MinInt + 1, math.MaxInt - 1, math.MaxInt} {
		all = append(all, impl.Target{Mod: v, Bank: -1}, impl.Target{Mod: 1, Bank: v}, impl.Target{Mod: v, Bank: v, At: v})
	}
	return all
}

func TestEnterInPlainNumbers(t *testing.T) {
	m := calcMachine(2)
	// Data of 64, 96 and 0 bytes, then the stack of 64, then slots of 96 bytes.
	got, ok := impl.Enter(m, impl.Target{Mod: 1, Bank: 1, At: 17})
	if !ok || got.Core.Pc != 65536+224+68 || got.Core.Regs[7] != 65600 || got.Mod != 1 || got.Bank != 1 || got.Turn != 1 || !slices.Equal(got.Slots, []impl.Slot{{Used: true, Mod: 1, Bank: 1, Turn: 1}, {}}) {
		t.Errorf("%v %s", ok, stateOf(got))
	}
	if !slices.Equal(got.Core.Regs[:7], m.Core.Regs[:7]) || len(got.Shadow) != 0 {
		t.Errorf("%s", stateOf(got))
	}
	first, _ := impl.Encode(impl.Ins{Op: impl.OpNear, D: 0, A: 0, Imm: 17})
	last, _ := impl.Encode(impl.Ins{Op: impl.OpReturn})
	a, _ := impl.Read(got.Mem, 65536+224, 4)
	b, _ := impl.Read(got.Mem, 65536+224+64, 4)
	c, _ := impl.Read(got.Mem, 65536+224+68, 4)
	if a != first || b != last || c != 0 {
		t.Errorf("%d %d %d", a, b, c)
	}
	got, ok = impl.Enter(got, impl.Target{Mod: 2, Bank: 0, At: 1})
	if !ok || got.Core.Pc != 65536+320+4 || got.Core.Regs[7] != 65696 || got.Turn != 2 || got.Slots[1] != (impl.Slot{Used: true, Mod: 2, Bank: 0, Turn: 2}) || got.Slots[0].Turn != 1 {
		t.Errorf("%v %s", ok, stateOf(got))
	}
	got, ok = impl.Enter(got, impl.Target{Mod: 1, Bank: -1, At: 1})
	if !ok || got.Core.Pc != 32+64+4 || got.Core.Regs[7] != 65600 || got.Turn != 2 || got.Bank != -1 || got.Mod != 1 {
		t.Errorf("%v %s", ok, stateOf(got))
	}
	flat := calcMachine(0)
	got, ok = impl.Enter(flat, impl.Target{Mod: 1, Bank: 1, At: 2})
	if !ok || got.Core.Pc != 32+64+32+32+8 || got.Core.Regs[7] != 65600 || got.Turn != 0 || len(got.Slots) != 0 || !sameMem(got.Mem, flat.Mem) {
		t.Errorf("%v %s", ok, stateOf(got))
	}
}

// TestEnterOfEveryTarget has targets that are there and others, in machines that are new and in ones that are at work.
func TestEnterOfEveryTarget(t *testing.T) {
	machines := []impl.Machine{busyMachine(t)}
	for slots := 0; slots <= 4; slots++ {
		machines = append(machines, calcMachine(slots))
	}
	for _, m := range machines {
		entered := 0
		for _, target := range someTargets(m.Mods) {
			if _, ok := wantEnter(t, m, target); ok {
				entered++
			}
			wantCall(t, m, target)
		}
		if entered < 20 {
			t.Errorf("%d targets are entered", entered)
		}
	}
}

// TestEnterTakesTheRightSlot enters up to five banks one after the other, in every order with two slots, in many with others.
func TestEnterTakesTheRightSlot(t *testing.T) {
	banks := calcBanks()
	for slots := 1; slots <= 4; slots++ {
		for way := range 5 * 5 * 5 * 5 * 5 {
			if way%7 != 0 && slots != 2 {
				continue
			}
			m := calcMachine(slots)
			for ; way > 0; way /= 5 {
				m, _ = wantEnter(t, m, banks[way%5])
			}
		}
	}
}

// TestEnterOfASlotThatHasTheBank brings nothing in: the slot becomes the youngest, and the others are as they were.
func TestEnterOfASlotThatHasTheBank(t *testing.T) {
	m := calcMachine(2)
	for _, target := range []impl.Target{{Mod: 1, Bank: 0}, {Mod: 1, Bank: 2}, {Mod: 1, Bank: 0}, {Mod: 2, Bank: 0}} {
		m, _ = wantEnter(t, m, target)
	}
	if want := []impl.Slot{{Used: true, Mod: 1, Bank: 0, Turn: 3}, {Used: true, Mod: 2, Bank: 0, Turn: 4}}; !slices.Equal(m.Slots, want) {
		t.Errorf("%v", m.Slots)
	}
}

// TestEnterOfAnUnusedSlotBehindUsedOnes takes the unused one, though it stands last, and the first of two.
func TestEnterOfAnUnusedSlotBehindUsedOnes(t *testing.T) {
	m := busyMachine(t)
	m, _ = wantEnter(t, m, impl.Target{Mod: 1, Bank: 0})
	if m.Slots[2] != (impl.Slot{Used: true, Mod: 1, Bank: 0, Turn: 3}) {
		t.Errorf("%v", m.Slots)
	}
	m, _ = wantEnter(t, m, impl.Target{Mod: 1, Bank: 2})
	if m.Slots[0] != (impl.Slot{Used: true, Mod: 1, Bank: 2, Turn: 4}) {
		t.Errorf("%v", m.Slots)
	}
	m.Slots[0], m.Slots[2] = impl.Slot{}, impl.Slot{}
	m.Bank = -1
	m, _ = wantEnter(t, m, impl.Target{Mod: 2, Bank: 0})
	if m.Slots[0] != (impl.Slot{Used: true, Mod: 2, Bank: 0, Turn: 5}) || m.Slots[2].Used {
		t.Errorf("%v", m.Slots)
	}
	m.Slots[1] = impl.Slot{}
	m, _ = wantEnter(t, m, impl.Target{Mod: 0, Bank: 0})
	if m.Slots[1] != (impl.Slot{Used: true, Mod: 0, Bank: 0, Turn: 6}) {
		t.Errorf("the first bank of the first module is not in an unused slot: %v", m.Slots)
	}
}

// TestEnterPutsZerosBehindABank has a short bank where a longer one stood, and where other bytes stood ahead of any.
func TestEnterPutsZerosBehindABank(t *testing.T) {
	m := calcMachine(1)
	for i := 224; i < len(m.Mem.Ram); i++ {
		m.Mem.Ram[i] = 255
	}
	if !impl.MachineOk(m) {
		t.Fatal("the bytes of an unused slot do not matter")
	}
	for _, target := range []impl.Target{{Mod: 1, Bank: 2}, {Mod: 1, Bank: 1}, {Mod: 1, Bank: 0}, {Mod: 2, Bank: 0}, {Mod: 1, Bank: 2}} {
		m, _ = wantEnter(t, m, target)
		words := len(wordsOf(m.Mods, target.Mod, target.Bank))
		for i := 224 + 4*words; i < 320; i++ {
			if m.Mem.Ram[i] != 0 {
				t.Fatalf("%v: byte %d is no zero", target, i)
			}
		}
	}
}

// TestEnterAtTheLastTurn has the last Turn with which something can be entered, with slots and without, and the one behind it.
func TestEnterAtTheLastTurn(t *testing.T) {
	for slots := 0; slots <= 2; slots++ {
		for _, target := range []impl.Target{{Mod: 1, Bank: 0}, {Mod: 0, Bank: -1}} {
			m := calcMachine(slots)
			m.Shadow = []impl.Frame{{Mod: 1, Bank: 2, At: 1, Base: 7}}
			m.Turn = 999999999
			got, ok := wantEnter(t, m, target)
			grown := slots > 0 && target.Bank != -1
			if !ok || (got.Turn == lastTurn) != grown || !impl.MachineOk(got) {
				t.Errorf("%d slots, %v: %v %d", slots, target, ok, got.Turn)
			}
			_, code := wantCall(t, m, target)
			_, back := wantReturn(t, m)
			if code != 0 || !back {
				t.Errorf("%d slots, %v: %d %v", slots, target, code, back)
			}
			wantTick(t, m)
			m.Turn = lastTurn
			_, ok = wantEnter(t, m, target)
			_, code = wantCall(t, m, target)
			_, back = wantReturn(t, m)
			_, did, n := wantTick(t, m)
			if ok || code != impl.FaultBus || back || did != impl.DidFault || n != impl.FaultBus {
				t.Errorf("%d slots, %v: %v %d %v %d %d", slots, target, ok, code, back, did, n)
			}
		}
	}
}

func TestCallInPlainNumbers(t *testing.T) {
	m := calcMachine(1)
	m.Core.Pc = 12
	m.Core.Regs[7] = 123456
	got, code := impl.Call(m, impl.Target{Mod: 1, Bank: 0, At: 1})
	if code != 0 || got.Core.Pc != 65536+224+4 || got.Core.Regs[7] != 65600 || !slices.Equal(got.Shadow, []impl.Frame{{Mod: 0, Bank: -1, At: 3, Base: 123456}}) || got.Turn != 1 {
		t.Errorf("%d %s", code, stateOf(got))
	}
	got.Core.Pc += 8
	got, code = impl.Call(got, impl.Target{Mod: 2, Bank: 0})
	if code != 0 || got.Core.Pc != 65536+224 || got.Core.Regs[7] != 65696 || got.Shadow[1] != (impl.Frame{Mod: 1, Bank: 0, At: 3, Base: 65600}) || got.Slots[0] != (impl.Slot{Used: true, Mod: 2, Bank: 0, Turn: 2}) {
		t.Errorf("%d %s", code, stateOf(got))
	}
	back, ok := impl.Return(got)
	if !ok || back.Core.Pc != 65536+224+12 || back.Core.Regs[7] != 65600 || len(back.Shadow) != 1 || back.Slots[0] != (impl.Slot{Used: true, Mod: 1, Bank: 0, Turn: 3}) || back.Turn != 3 {
		t.Errorf("a bank that was put out of its slot: %v %s", ok, stateOf(back))
	}
	back, ok = impl.Return(back)
	if !ok || back.Core.Pc != 12 || back.Core.Regs[7] != 123456 || len(back.Shadow) != 0 || back.Mod != 0 || back.Bank != -1 || back.Turn != 3 {
		t.Errorf("%v %s", ok, stateOf(back))
	}
	if same, ok := impl.Return(back); ok || !sameMachine(same, back) {
		t.Errorf("%v %s", ok, stateOf(same))
	}
}

// TestCallFromEveryPc has the origin, the end of the piece, and what lies ahead of, between and behind its words.
func TestCallFromEveryPc(t *testing.T) {
	for _, here := range append(calcBanks(), impl.Target{Mod: 0, Bank: -1}, impl.Target{Mod: 1, Bank: -1}, impl.Target{Mod: 2, Bank: -1}) {
		for slots := 0; slots <= 3; slots++ {
			m, _ := impl.Enter(calcMachine(slots), here)
			origin, end := originNow(m), originNow(m)+4*len(wordsOf(m.Mods, here.Mod, here.Bank))
			for _, pc := range []int{origin - 32, origin - 4, origin - 1, origin, origin + 1, origin + 2, origin + 3, origin + 4, end - 4, end - 1, end, end + 1, end + 4, end + 32, 0, 4, 65536, wordEnd - 4, wordEnd - 1} {
				m.Core.Pc = max(pc, 0)
				_, code := wantCall(t, m, impl.Target{Mod: 1, Bank: 2, At: 1})
				inside := m.Core.Pc >= origin && m.Core.Pc <= end && m.Core.Pc%4 == 0
				if inside != (code == 0) || !inside && code != impl.FaultBus {
					t.Errorf("%v from %d on, called at %d: %d", here, origin, m.Core.Pc, code)
				}
			}
		}
	}
}

// TestCallOfDepth has a full shadow, one with room for one frame, and one that takes none.
func TestCallOfDepth(t *testing.T) {
	for depth := 0; depth <= 4; depth++ {
		c := calcConfig(2)
		c.Depth = depth
		m := machineOf(calcProgram(), c)
		for i := range depth + 1 {
			var code int
			m, code = wantCall(t, m, impl.Target{Mod: i % 2, Bank: i%2 - 1})
			if want := i == depth; want != (code == impl.FaultDepth) || !want && code != 0 {
				t.Errorf("depth %d, call %d: %d", depth, i, code)
			}
		}
		if len(m.Shadow) != depth {
			t.Errorf("depth %d: %d frames", depth, len(m.Shadow))
		}
	}
	c := calcConfig(1)
	c.Depth = 100
	m := machineOf(calcProgram(), c)
	m.Shadow = make([]impl.Frame, 99)
	m, code := wantCall(t, m, impl.Target{Mod: 1, Bank: 0})
	if _, again := wantCall(t, m, impl.Target{Mod: 1, Bank: 0}); code != 0 || again != impl.FaultDepth {
		t.Errorf("%d %d", code, again)
	}
}

// TestCallNamesTheFirstCode has a full shadow together with all that is FaultBus.
func TestCallNamesTheFirstCode(t *testing.T) {
	good := impl.Target{Mod: 1, Bank: 0}
	full := calcMachine(1)
	full.Shadow = make([]impl.Frame, 3)
	full.Core.Pc = 4
	if _, code := wantCall(t, full, good); code != impl.FaultDepth {
		t.Fatal(code)
	}
	for i, target := range []impl.Target{{Mod: 3, Bank: -1}, {Mod: -1, Bank: -1}, {Mod: 1, Bank: 3}, {Mod: 1, Bank: -2}, {Mod: 1, Bank: 0, At: 4}, {Mod: 1, Bank: 0, At: -1}} {
		if _, code := wantCall(t, full, target); code != impl.FaultBus {
			t.Errorf("target %d: %d", i, code)
		}
	}
	for i, change := range []func(m *impl.Machine){
		func(m *impl.Machine) { m.Core.Pc = 5 },
		func(m *impl.Machine) { m.Core.Pc = 24 },
		func(m *impl.Machine) { m.Mod, m.Core.Pc = 1, 0 },
		func(m *impl.Machine) { m.Turn = lastTurn },
		func(m *impl.Machine) { m.Turn = -1 },
		func(m *impl.Machine) { m.Shadow = append(m.Shadow, impl.Frame{}) },
	} {
		m := cloneMachine(full)
		change(&m)
		if _, code := wantCall(t, m, good); code != impl.FaultBus {
			t.Errorf("change %d: %d", i, code)
		}
	}
}

// TestReturnGivesTheBaseBack has bases that are no address of data, and frames at each end of each piece.
func TestReturnGivesTheBaseBack(t *testing.T) {
	for slots := 0; slots <= 3; slots++ {
		for _, base := range []int{0, 1, 65536, 65600, 131072, 4294967295} {
			for _, target := range someTargets(calcProgram()) {
				m := calcMachine(slots)
				m.Shadow = []impl.Frame{{Mod: 1, Bank: 1, At: 9, Base: 5}, {Mod: target.Mod, Bank: target.Bank, At: target.At, Base: base}}
				got, ok := wantReturn(t, m)
				if ok != targetAsTold(m.Mods, target) || ok && got.Core.Regs[7] != base {
					t.Fatalf("%v: %v %s", target, ok, stateOf(got))
				}
			}
		}
	}
}

// TestReturnToABankThatIsNotInItsSlot calls through more banks than there are slots, and back through all of them.
func TestReturnToABankThatIsNotInItsSlot(t *testing.T) {
	for slots := 0; slots <= 4; slots++ {
		c := calcConfig(slots)
		c.Depth = 20
		m := machineOf(calcProgram(), c)
		for i := range 20 {
			m.Core.Pc = originNow(m) + 4
			m.Core.Regs[7] = 1000 + i
			m, _ = wantCall(t, m, calcBanks()[i*3%5])
		}
		for i := 19; i >= 0; i-- {
			var ok bool
			m, ok = wantReturn(t, m)
			if !ok || m.Core.Pc != originNow(m)+4 || m.Core.Regs[7] != 1000+i {
				t.Fatalf("%d slots, frame %d: %v %s", slots, i, ok, stateOf(m))
			}
		}
		if m.Bank != -1 || m.Mod != 0 || len(m.Shadow) != 0 {
			t.Errorf("%s", stateOf(m))
		}
	}
}
