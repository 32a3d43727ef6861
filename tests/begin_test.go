package tests

import (
	"fmt"
	"math"
	"math/big"
	"slices"
	"testing"

	"loop.example/s01513/impl"
)

// beginAsTold does Begin in the document's words.
func beginAsTold(m impl.Machine, name string, args []int) (impl.Machine, bool) {
	target, found := resolveAsTold(m.Mods, name)
	if !validAsTold(m) || !found || len(args) > 4 || m.Turn == lastTurn {
		return m, false
	}
	got, l := cloneMachine(m), layoutAsTold(m.Mods, m.Config)
	got.Shadow, got.Mem.Out = nil, nil
	for i := range m.Config.Stack {
		got.Mem.Ram[l.Stack-65536+i] = 0
	}
	for i := range got.Core.Regs {
		got.Core.Regs[i] = 0
		if i < len(args) {
			got.Core.Regs[i] = modulo(big.NewInt(int64(args[i])))
		}
	}
	got.Core.Regs[6] = l.Stack + m.Config.Stack
	return enterAsTold(got, target)
}

func wantBegin(t *testing.T, m impl.Machine, name string, args []int) (impl.Machine, bool) {
	t.Helper()
	before, given := cloneMachine(m), slices.Clone(args)
	want, good := beginAsTold(before, name, args)
	got, ok := impl.Begin(m, name, args)
	if ok != good {
		t.Fatalf("begin %q %v of %s: %v", name, args, stateOf(before), ok)
	}
	wantState(t, fmt.Sprintf("begin %q %v", name, args), m, before, got, want)
	if !slices.Equal(args, given) {
		t.Fatalf("begin %q %v: the args are changed: %v", name, given, args)
	}
	wantNewMemory(t, got, args)
	return got, ok
}

// usedMachine has something in all that Begin takes away, and in what it leaves as it is.
func usedMachine(t *testing.T, slots int) impl.Machine {
	t.Helper()
	m := calcMachine(slots)
	if slots > 0 {
		m, _ = impl.Enter(m, impl.Target{Mod: 1, Bank: 1})
	}
	// Data of 64, 96 and 0 bytes, then the stack of 64.
	for i := range 224 {
		m.Mem.Ram[i] = byte(1 + i%250)
	}
	m.Core = coreAt(4294967295, 1, 2, 3, 4, 5, 6, 7, 8)
	m.Mem.Out = numbered(5000, 1)
	m.Shadow = []impl.Frame{{Mod: 1, Bank: 0, At: 2, Base: 9}, {Mod: 0, Bank: -1}, {Mod: 2, Bank: 0, At: 16, Base: 4294967295}}
	if !impl.MachineOk(m) {
		t.Fatal("not valid")
	}
	return m
}

func TestBeginInPlainNumbers(t *testing.T) {
	m := usedMachine(t, 2)
	got, ok := impl.Begin(m, "lib.two", []int{7, -1, 4294967296, math.MinInt})
	if !ok || got.Core.Pc != 65536+224+64 || !slices.Equal(got.Core.Regs, []int{7, 4294967295, 0, 0, 0, 0, 65536 + 224, 65600}) {
		t.Errorf("%v %s", ok, stateOf(got))
	}
	if got.Mod != 1 || got.Bank != 1 || len(got.Shadow) != 0 || len(got.Mem.Out) != 0 || got.Turn != 2 || !slices.Equal(got.Slots, []impl.Slot{{Used: true, Mod: 1, Bank: 1, Turn: 2}, {}}) {
		t.Errorf("%s", stateOf(got))
	}
	ram := slices.Clone(m.Mem.Ram)
	clear(ram[160:224])
	if !slices.Equal(got.Mem.Ram, ram) || !slices.Equal(got.Mem.Flash, m.Mem.Flash) {
		t.Errorf("%v", got.Mem.Ram)
	}
	got, ok = impl.Begin(m, "app.bank", nil)
	if !ok || got.Core.Pc != 65536+320+32 || !slices.Equal(got.Core.Regs, []int{0, 0, 0, 0, 0, 0, 65536 + 224, 65536}) || got.Turn != 2 || !slices.Equal(got.Slots, []impl.Slot{{Used: true, Mod: 1, Bank: 1, Turn: 1}, {Used: true, Mod: 0, Bank: 0, Turn: 2}}) {
		t.Errorf("%v %s", ok, stateOf(got))
	}
	got, ok = impl.Begin(m, "lib.text", []int{1})
	if !ok || got.Core.Pc != 96 || !slices.Equal(got.Core.Regs, []int{1, 0, 0, 0, 0, 0, 65536 + 224, 65600}) || got.Turn != 1 || got.Bank != -1 {
		t.Errorf("%v %s", ok, stateOf(got))
	}
	flat := usedMachine(t, 0)
	got, ok = impl.Begin(flat, "empty.far", nil)
	if !ok || got.Core.Pc != 32+64+32+32+96+32+60 || !slices.Equal(got.Core.Regs, []int{0, 0, 0, 0, 0, 0, 65536 + 224, 65696}) || got.Turn != 0 {
		t.Errorf("%v %s", ok, stateOf(got))
	}
}

// TestBeginOfEveryName has the exports that there are, and texts that name none.
func TestBeginOfEveryName(t *testing.T) {
	for slots := 0; slots <= 4; slots++ {
		for _, m := range []impl.Machine{calcMachine(slots), usedMachine(t, slots)} {
			begun := 0
			for _, name := range []string{
				"app.bank", "lib.one", "lib.two", "lib.text", "empty.far", "app.one", "lib.bank", "no.one", "lib.no", "empty.", ".far", "", ".", "lib", "libone", "lib.one.two", "lib..one", "Lib.one", "lib.One", " lib.one", "lib.one ", "lib.\xff", letters(13, 0) + ".one", "lib." + letters(13, 0),
			} {
				if _, ok := wantBegin(t, m, name, []int{3, 4}); ok {
					begun++
				}
			}
			if begun != 5 {
				t.Errorf("%d slots: %d names are begun", slots, begun)
			}
		}
	}
}

// TestBeginOfArgs has no args, up to four of all kinds, and more.
func TestBeginOfArgs(t *testing.T) {
	numbers := []int{0, 1, -1, 65535, 4294967295, 4294967296, 4294967297, -4294967295, -4294967296, -4294967297, math.MaxInt, math.MinInt, math.MaxInt - 1, math.MinInt + 1, 2147483648, -2147483648, 1 << 40}
	for _, m := range []impl.Machine{usedMachine(t, 0), usedMachine(t, 1)} {
		for n := 0; n <= 9; n++ {
			for i := range numbers {
				var args []int
				for k := range n {
					args = append(args, numbers[(i+5*k)%len(numbers)])
				}
				if _, ok := wantBegin(t, m, "lib.one", args); ok != (n <= 4) {
					t.Errorf("%d args: %v", n, ok)
				}
			}
		}
		wantBegin(t, m, "lib.one", []int{})
		wantBegin(t, m, "lib.one", make([]int, 1000))
		wantBegin(t, m, "lib.one", slices.Clone(numbers)[:4:9])
	}
}

// TestBeginOfStacks has none, one grain and the greatest, with slots behind it and without.
func TestBeginOfStacks(t *testing.T) {
	for slots := 0; slots <= 2; slots++ {
		for _, stack := range []int{0, 32, 64, 512, 1024} {
			c := impl.Config{Slots: slots, Words: 18, Stack: stack}
			m := machineOf(calcProgram(), c)
			for i := range m.Mem.Ram {
				m.Mem.Ram[i] = 255
			}
			got, ok := wantBegin(t, m, "lib.text", nil)
			if !ok || got.Core.Regs[6] != 65536+160+stack {
				t.Errorf("%d slots, a stack of %d: %v %s", slots, stack, ok, stateOf(got))
			}
			for i, v := range got.Mem.Ram {
				if inStack := i >= 160 && i < 160+stack; inStack != (v == 0) {
					t.Fatalf("%d slots, a stack of %d: byte %d is %d", slots, stack, i, v)
				}
			}
			wantBegin(t, m, "lib.two", nil)
		}
	}
}

// TestBeginAtTheLastTurn has the last Turn with which something can be entered, and the one behind it.
func TestBeginAtTheLastTurn(t *testing.T) {
	for slots := 0; slots <= 2; slots++ {
		for _, name := range []string{"lib.one", "lib.two", "lib.text"} {
			m := usedMachine(t, slots)
			m.Turn = lastTurn - 1
			got, ok := wantBegin(t, m, name, nil)
			if grown := slots > 0 && name != "lib.text"; !ok || grown != (got.Turn == lastTurn) {
				t.Errorf("%d slots, %s: %v %d", slots, name, ok, got.Turn)
			}
			m.Turn = lastTurn
			if _, ok = wantBegin(t, m, name, nil); ok {
				t.Errorf("%d slots, %s: begun", slots, name)
			}
		}
	}
}

// TestBeginOfInvalidMachines gives them back as they are.
func TestBeginOfInvalidMachines(t *testing.T) {
	busy := busyMachine(t)
	if _, ok := wantBegin(t, busy, "lib.two", nil); !ok {
		t.Errorf("not begun")
	}
	for _, bad := range append(badMachines(), badMachine{"nothing", func(m *impl.Machine) { *m = impl.Machine{} }}) {
		m := cloneMachine(busy)
		bad.change(&m)
		for _, name := range []string{"lib.two", "lib.text", "lib.no"} {
			if _, ok := wantBegin(t, m, name, []int{1}); ok {
				t.Errorf("%s: %s is begun", bad.what, name)
			}
		}
	}
}

// TestBeginAgain begins one export after the other on a machine that ticks between them; a valid machine stays valid.
func TestBeginAgain(t *testing.T) {
	names := []string{"app.bank", "lib.one", "lib.two", "lib.text", "empty.far"}
	for slots := 0; slots <= 4; slots++ {
		m, code := wantLoad(t, imagesOf(calcProgram()), calcConfig(slots), "the program")
		if code != 0 {
			t.Fatal(code)
		}
		for i := range 50 {
			var ok bool
			m, ok = wantBegin(t, m, names[i*i%5], []int{i, -i})
			if !ok || len(m.Shadow) != 0 {
				t.Fatalf("%s", stateOf(m))
			}
			for range i % 4 {
				m, _, _ = wantTick(t, m)
			}
			m, _ = wantCall(t, m, calcBanks()[i%5])
		}
	}
}

// ticksUpTo does ticks up to the first one that ends a run, and gives the machine and their number.
func ticksUpTo(t *testing.T, m impl.Machine, most int) (impl.Machine, int) {
	t.Helper()
	for i := range most {
		var did int
		m, did, _ = wantTick(t, m)
		if did == impl.DidStop || did == impl.DidFault {
			return m, i + 1
		}
	}
	return m, most
}

// TestTicksOfLoadedPrograms is promises 9 and 10 for machines that Load and Begin made.
func TestTicksOfLoadedPrograms(t *testing.T) {
	d := new(dice)
	all := 0
	for range 60 {
		p := d.machine()
		m, code := wantLoad(t, imagesOf(p.Mods), p.Config, "a program")
		if code != 0 {
			t.Fatal(code)
		}
		for i := range 3 * len(m.Mods) {
			mod := m.Mods[i%len(m.Mods)]
			name := mod.Name + "." + mod.Exports[d.below(len(mod.Exports))].Name
			begun, ok := wantBegin(t, m, name, []int{d.word(), -d.word()})
			if !ok {
				t.Fatalf("%s is not begun", name)
			}
			var ticks int
			m, ticks = ticksUpTo(t, begun, 40)
			all += ticks
		}
	}
	if all < 500 {
		t.Errorf("%d ticks", all)
	}
}
