package tests

import (
	"fmt"
	"math"
	"slices"
	"testing"

	"loop.example/s01513/impl"
)

const lastTurn = 1000000000

// machineOf gives a machine as it is ahead of all that it may do, but for its registers: no two of them are the same.
func machineOf(mods []impl.Module, c impl.Config) impl.Machine {
	mem := imageAsTold(mods, layoutAsTold(mods, c))
	return impl.Machine{Mods: cloneModules(mods), Config: c, Core: coreAt(0), Mem: mem, Bank: -1, Slots: make([]impl.Slot, c.Slots)}
}

func cloneMachine(m impl.Machine) impl.Machine {
	got := m
	got.Mods = cloneModules(m.Mods)
	got.Core = cloneCore(m.Core)
	got.Mem = cloneMem(m.Mem)
	got.Slots = slices.Clone(m.Slots)
	got.Shadow = slices.Clone(m.Shadow)
	return got
}

func sameMachine(a impl.Machine, b impl.Machine) bool {
	return sameModules(a.Mods, b.Mods) && a.Config == b.Config && sameCore(a.Core, b.Core) && sameMem(a.Mem, b.Mem) && a.Mod == b.Mod && a.Bank == b.Bank &&
		slices.Equal(a.Slots, b.Slots) && slices.Equal(a.Shadow, b.Shadow) && a.Turn == b.Turn
}

// stateOf tells what of a machine its manager changes.
func stateOf(m impl.Machine) string {
	return fmt.Sprint(m.Config, m.Core, m.Mod, m.Bank, m.Slots, m.Shadow, m.Turn)
}

// slotText gives the bytes that a slot is to have.
func slotText(m impl.Machine, mod int, bank int) []byte {
	var b []byte
	for _, v := range m.Mods[mod].Banks[bank] {
		b = append(b, byte(v), byte(v>>8), byte(v>>16), byte(v>>24))
	}
	return append(b, make([]byte, rounded(4*m.Config.Words)-len(b))...)
}

// isIn says whether a piece is there.
func isIn(mods []impl.Module, mod int, bank int) bool {
	return mod >= 0 && mod < len(mods) && bank >= -1 && bank < len(mods[mod].Banks)
}

// targetAsTold says whether a target has a piece that is there, and a word of it or its end.
func targetAsTold(mods []impl.Module, t impl.Target) bool {
	return isIn(mods, t.Mod, t.Bank) && t.At >= 0 && t.At <= len(wordsOf(mods, t.Mod, t.Bank))
}

// validAsTold says whether a machine is valid.
func validAsTold(m impl.Machine) bool {
	l, code := impl.Link(m.Mods, m.Config)
	if code != 0 || !fitsAsTold(m.Mods, l) || m.Turn < 0 || m.Turn > lastTurn || len(m.Core.Regs) != 8 {
		return false
	}
	for _, v := range append([]int{m.Core.Pc}, m.Core.Regs...) {
		if v < 0 || v >= wordEnd {
			return false
		}
	}
	image := imageAsTold(m.Mods, l)
	if string(image.Flash) != string(m.Mem.Flash) || len(m.Mem.Ram) != l.Ram || len(m.Mem.Out) > 5000 || len(m.Slots) != m.Config.Slots || !isIn(m.Mods, m.Mod, m.Bank) {
		return false
	}
	for _, f := range m.Shadow {
		if !targetAsTold(m.Mods, impl.Target{Mod: f.Mod, Bank: f.Bank, At: f.At}) || f.Base < 0 || f.Base >= wordEnd {
			return false
		}
	}
	return len(m.Shadow) <= m.Config.Depth && slotsAsTold(m, l)
}

// slotsAsTold says whether the slots of a machine are valid.
func slotsAsTold(m impl.Machine, l impl.Layout) bool {
	here := m.Bank == -1 || m.Config.Slots == 0
	for i, s := range m.Slots {
		if !s.Used {
			if s.Mod != 0 || s.Bank != 0 || s.Turn != 0 {
				return false
			}
			continue
		}
		if !isIn(m.Mods, s.Mod, s.Bank) || s.Bank == -1 || s.Turn < 1 || s.Turn > m.Turn {
			return false
		}
		for k, other := range m.Slots {
			if k != i && other.Used && (other.Turn == s.Turn || other.Mod == s.Mod && other.Bank == s.Bank) {
				return false
			}
		}
		text := slotText(m, s.Mod, s.Bank)
		if from := l.Slots[i] - 65536; string(m.Mem.Ram[from:from+len(text)]) != string(text) {
			return false
		}
		here = here || s.Mod == m.Mod && s.Bank == m.Bank
	}
	return here
}

// slotNow gives the slot that has a bank, or -1.
func slotNow(m impl.Machine, mod int, bank int) int {
	for i, s := range m.Slots {
		if s.Used && s.Mod == mod && s.Bank == bank {
			return i
		}
	}
	return -1
}

// originNow gives the origin of a machine.
func originNow(m impl.Machine) int {
	return originAsTold(layoutAsTold(m.Mods, m.Config), m.Mod, m.Bank, slotNow(m, m.Mod, m.Bank))
}

// slotTaken gives the slot that Enter takes for a bank.
func slotTaken(m impl.Machine, mod int, bank int) int {
	if i := slotNow(m, mod, bank); i >= 0 {
		return i
	}
	least := -1
	for i, s := range m.Slots {
		if !s.Used {
			return i
		}
		if least < 0 || s.Turn < m.Slots[least].Turn {
			least = i
		}
	}
	return least
}

// enterAsTold does Enter in the document's words.
func enterAsTold(m impl.Machine, t impl.Target) (impl.Machine, bool) {
	if !validAsTold(m) || !targetAsTold(m.Mods, t) || m.Turn == lastTurn {
		return m, false
	}
	got, l := cloneMachine(m), layoutAsTold(m.Mods, m.Config)
	if m.Config.Slots > 0 && t.Bank != -1 {
		i := slotTaken(m, t.Mod, t.Bank)
		if slotNow(m, t.Mod, t.Bank) < 0 {
			copy(got.Mem.Ram[l.Slots[i]-65536:], slotText(m, t.Mod, t.Bank))
		}
		got.Turn++
		got.Slots[i] = impl.Slot{Used: true, Mod: t.Mod, Bank: t.Bank, Turn: got.Turn}
	}
	got.Mod, got.Bank = t.Mod, t.Bank
	got.Core.Pc = originNow(got) + 4*t.At
	got.Core.Regs[7] = l.Places[t.Mod].Data
	return got, true
}

// callAsTold does Call in the document's words.
func callAsTold(m impl.Machine, t impl.Target) (impl.Machine, int) {
	got, ok := enterAsTold(m, t)
	if !ok {
		return m, impl.FaultBus
	}
	away := m.Core.Pc - originNow(m)
	if away < 0 || away%4 != 0 || away/4 > len(wordsOf(m.Mods, m.Mod, m.Bank)) {
		return m, impl.FaultBus
	}
	if len(m.Shadow) == m.Config.Depth {
		return m, impl.FaultDepth
	}
	got.Shadow = append(got.Shadow, impl.Frame{Mod: m.Mod, Bank: m.Bank, At: away / 4, Base: m.Core.Regs[7]})
	return got, 0
}

// returnAsTold does Return in the document's words.
func returnAsTold(m impl.Machine) (impl.Machine, bool) {
	if !validAsTold(m) || len(m.Shadow) == 0 {
		return m, false
	}
	f := m.Shadow[len(m.Shadow)-1]
	got, ok := enterAsTold(m, impl.Target{Mod: f.Mod, Bank: f.Bank, At: f.At})
	if !ok {
		return m, false
	}
	got.Shadow = got.Shadow[:len(m.Shadow)-1]
	got.Core.Regs[7] = f.Base
	return got, true
}

// tickAsTold does Tick in the document's words.
func tickAsTold(m impl.Machine) (impl.Machine, int, int) {
	if !validAsTold(m) || m.Turn == lastTurn {
		return m, impl.DidFault, impl.FaultBus
	}
	l := layoutAsTold(m.Mods, m.Config)
	rs, _ := planAsTold(m.Mods, l, impl.Target{Mod: m.Mod, Bank: m.Bank}, slotNow(m, m.Mod, m.Bank))
	step := stepAsTold(m.Core, m.Mem, rs)
	next := cloneMachine(m)
	next.Core, next.Mem = step.core, step.mem
	code := 0
	switch step.did {
	case impl.DidFault:
		code = step.n
	case impl.DidStop:
		return next, impl.DidStop, next.Core.Regs[0]
	case impl.DidCall:
		away := step.n - originNow(m)
		code = impl.FaultRegion
		if away >= 0 && away%4 == 0 && away/4 <= len(wordsOf(m.Mods, m.Mod, m.Bank)) {
			next, code = callAsTold(next, impl.Target{Mod: m.Mod, Bank: m.Bank, At: away / 4})
		}
	case impl.DidImport:
		code = impl.FaultImport
		if step.n < len(l.Targets[m.Mod]) {
			next, code = callAsTold(next, l.Targets[m.Mod][step.n])
		}
	case impl.DidReturn:
		if len(m.Shadow) == 0 {
			return next, impl.DidStop, next.Core.Regs[0]
		}
		next, _ = returnAsTold(next)
	}
	if code != 0 {
		return m, impl.DidFault, code
	}
	return next, step.did, 0
}

// wantState wants a machine as told, which is new memory, from one that is not changed. Promise 9: a valid one stays valid.
func wantState(t *testing.T, what string, given impl.Machine, before impl.Machine, got impl.Machine, want impl.Machine) {
	t.Helper()
	if !sameMachine(got, want) {
		t.Fatalf("%s of %s: %s, not %s", what, stateOf(before), stateOf(got), stateOf(want))
	}
	if !sameMachine(given, before) {
		t.Fatalf("%s of %s: the machine given is changed: %s", what, stateOf(before), stateOf(given))
	}
	if valid := impl.MachineOk(got); valid != impl.MachineOk(before) || valid != validAsTold(got) {
		t.Fatalf("%s of %s: valid %v: %s", what, stateOf(before), valid, stateOf(got))
	}
	wantNewMemory(t, got, given)
}

func wantEnter(t *testing.T, m impl.Machine, target impl.Target) (impl.Machine, bool) {
	t.Helper()
	before := cloneMachine(m)
	want, good := enterAsTold(before, target)
	got, ok := impl.Enter(m, target)
	if ok != good {
		t.Fatalf("enter %v of %s: %v", target, stateOf(before), ok)
	}
	wantState(t, fmt.Sprint("enter ", target), m, before, got, want)
	return got, ok
}

func wantCall(t *testing.T, m impl.Machine, target impl.Target) (impl.Machine, int) {
	t.Helper()
	before := cloneMachine(m)
	want, wantCode := callAsTold(before, target)
	got, code := impl.Call(m, target)
	if code != wantCode {
		t.Fatalf("call %v of %s: %d, not %d", target, stateOf(before), code, wantCode)
	}
	wantState(t, fmt.Sprint("call ", target), m, before, got, want)
	return got, code
}

func wantReturn(t *testing.T, m impl.Machine) (impl.Machine, bool) {
	t.Helper()
	before := cloneMachine(m)
	want, good := returnAsTold(before)
	got, ok := impl.Return(m)
	if ok != good {
		t.Fatalf("return of %s: %v", stateOf(before), ok)
	}
	wantState(t, "return", m, before, got, want)
	return got, ok
}

func wantTick(t *testing.T, m impl.Machine) (impl.Machine, int, int) {
	t.Helper()
	before := cloneMachine(m)
	want, wantDid, wantN := tickAsTold(before)
	got, did, n := impl.Tick(m)
	if did != wantDid || n != wantN {
		t.Fatalf("tick of %s: %d %d, not %d %d", stateOf(before), did, n, wantDid, wantN)
	}
	wantState(t, "tick", m, before, got, want)
	wantOnlyAllowedChanges(t, before, got)
	return got, did, n
}

// wantOnlyAllowedChanges is promise 10.
func wantOnlyAllowedChanges(t *testing.T, m impl.Machine, got impl.Machine) {
	t.Helper()
	if string(got.Mem.Flash) != string(m.Mem.Flash) || len(got.Mem.Ram) != len(m.Mem.Ram) {
		t.Fatalf("tick of %s: the flash is changed, or the length of the Ram", stateOf(m))
	}
	if !impl.MachineOk(m) {
		return
	}
	l := layoutAsTold(m.Mods, m.Config)
	free := make([]bool, len(m.Mem.Ram))
	for i := range free {
		at := 65536 + i
		place := l.Places[m.Mod]
		free[i] = at >= place.Data && at < place.Data+place.Size || at >= l.Stack && at < l.Stack+m.Config.Stack
	}
	for i, s := range got.Slots {
		if old := m.Slots[i]; old.Used != s.Used || old.Mod != s.Mod || old.Bank != s.Bank {
			text := slotText(m, s.Mod, s.Bank)
			from := l.Slots[i] - 65536
			for k := range text {
				free[from+k] = got.Mem.Ram[from+k] == text[k]
			}
		}
	}
	for i, v := range got.Mem.Ram {
		if v != m.Mem.Ram[i] && !free[i] {
			t.Fatalf("tick of %s: the byte at %d is changed", stateOf(m), 65536+i)
		}
	}
}

// calcProgram has Text and banks of different lengths in three modules; the words stop or return.
func calcProgram() []impl.Module {
	line := func(n int, op int) []int {
		words := make([]int, n)
		for i := range words {
			words[i] = ins(impl.OpNear, i%7, i%5, 3*i+n)
		}
		words[n-1] = ins(op, 0, 0, 0)
		return words
	}
	return []impl.Module{
		{Name: "app", Text: line(5, impl.OpStop), Banks: [][]int{line(9, impl.OpReturn)}, Data: numbered(40, 9), Relocs: []int{4}, Imports: []string{"lib.one", "lib.two", "app.bank", "lib.text", "empty.far"}, Exports: []impl.Export{{Name: "bank", Bank: 0, At: 8}}},
		{Name: "lib", Text: line(1, impl.OpReturn), Banks: [][]int{line(3, impl.OpReturn), line(17, impl.OpReturn), line(1, impl.OpReturn)}, Data: numbered(4, 77), Bss: 61, Imports: []string{"app.bank"}, Exports: []impl.Export{{Name: "one", Bank: 0}, {Name: "two", Bank: 1, At: 16}, {Name: "text", Bank: -1}}},
		{Name: "empty", Banks: [][]int{line(16, impl.OpStop)}, Exports: []impl.Export{{Name: "far", Bank: 0, At: 15}}},
	}
}

// calcBanks are all banks of the program.
func calcBanks() []impl.Target {
	return []impl.Target{{Mod: 0, Bank: 0}, {Mod: 1, Bank: 0}, {Mod: 1, Bank: 1}, {Mod: 1, Bank: 2}, {Mod: 2, Bank: 0}}
}

// calcConfig gives a configuration in which the program fits.
func calcConfig(slots int) impl.Config {
	return impl.Config{Slots: slots, Words: 18, Stack: 64, Depth: 3}
}

func calcMachine(slots int) impl.Machine {
	return machineOf(calcProgram(), calcConfig(slots))
}

// busyMachine has two used slots of three, two frames, and runs in a bank that has a slot.
func busyMachine(t *testing.T) impl.Machine {
	t.Helper()
	m := calcMachine(3)
	m.Core.Regs[7] = 4294967295
	m.Core.Pc = 8
	m, code := impl.Call(m, impl.Target{Mod: 1, Bank: 1, At: 4})
	if code != 0 {
		t.Fatal(code)
	}
	m, code = impl.Call(m, impl.Target{Mod: 0, Bank: 0, At: 3})
	if code != 0 || !impl.MachineOk(m) || !validAsTold(m) {
		t.Fatal(code)
	}
	m.Mem.Out = numbered(3, 4)
	return m
}

// badMachine is a change by which a machine is not valid.
type badMachine struct {
	what   string
	change func(m *impl.Machine)
}

type machineList []badMachine

func (b *machineList) add(what string, change func(m *impl.Machine)) {
	*b = append(*b, badMachine{what, change})
}

// each adds a change for each of the numbers that a field is not to have.
func (b *machineList) each(what string, field func(m *impl.Machine) *int, numbers ...int) {
	for _, v := range append(numbers, math.MinInt, math.MaxInt) {
		b.add(fmt.Sprint(what, " ", v), func(m *impl.Machine) { *field(m) = v })
	}
}

// badMachines change one thing of the busy machine each.
func badMachines() []badMachine {
	var b machineList
	b.addModules()
	b.addCoreAndMemory()
	b.addSlots()
	b.addShadow()
	return b
}

func (b *machineList) addModules() {
	b.add("no modules", func(m *impl.Machine) { m.Mods = nil })
	b.add("a module less", func(m *impl.Machine) { m.Mods = m.Mods[:2] })
	b.add("five modules", func(m *impl.Machine) { m.Mods = append(m.Mods, impl.Module{Name: "d"}, impl.Module{Name: "e"}) })
	b.add("a name", func(m *impl.Machine) { m.Mods[2].Name = "E" })
	b.add("the same name", func(m *impl.Machine) { m.Mods[2].Name = "lib" })
	b.add("an import", func(m *impl.Machine) { m.Mods[1].Imports[0] = "lib.no" })
	b.add("a word of the text", func(m *impl.Machine) { m.Mods[0].Text[0]++ })
	b.add("a word of a bank that is not in a slot", func(m *impl.Machine) { m.Mods[2].Banks[0][3]++ })
	b.add("a bank less", func(m *impl.Machine) { m.Mods[2].Banks, m.Mods[2].Exports, m.Mods[0].Imports = nil, nil, nil })
	b.add("more data", func(m *impl.Machine) { m.Mods[1].Bss = 512 })
	b.add("slots", func(m *impl.Machine) { m.Config.Slots = 2 })
	b.add("no slots", func(m *impl.Machine) { m.Config.Slots = 0 })
	b.each("slots", func(m *impl.Machine) *int { return &m.Config.Slots }, -1, 1, 4, 5)
	b.each("words", func(m *impl.Machine) *int { return &m.Config.Words }, 0, 8, 16, 25, 64, 65)
	b.each("stack", func(m *impl.Machine) *int { return &m.Config.Stack }, 32, 63, 96, 1056)
	b.each("depth", func(m *impl.Machine) *int { return &m.Config.Depth }, -1, 0, 1, 101)
	b.each("module", func(m *impl.Machine) *int { return &m.Mod }, -1, 1, 2, 3)
	b.each("bank", func(m *impl.Machine) *int { return &m.Bank }, -2, 1, 4)
	b.each("turn", func(m *impl.Machine) *int { return &m.Turn }, -1, 0, 1, lastTurn+1)
	b.add("a bank that is in no slot", func(m *impl.Machine) { m.Mod, m.Bank = 1, 2 })
	b.add("the first bank of the first module, not in a slot", func(m *impl.Machine) { m.Slots[1] = impl.Slot{} })
}

func (b *machineList) addCoreAndMemory() {
	b.each("pc", func(m *impl.Machine) *int { return &m.Core.Pc }, -1, wordEnd)
	for i := range 8 {
		b.each(fmt.Sprint("register ", i), func(m *impl.Machine) *int { return &m.Core.Regs[i] }, -1, wordEnd)
	}
	b.add("no registers", func(m *impl.Machine) { m.Core.Regs = nil })
	b.add("seven registers", func(m *impl.Machine) { m.Core.Regs = m.Core.Regs[:7] })
	b.add("nine registers", func(m *impl.Machine) { m.Core.Regs = append(m.Core.Regs, 0) })
	b.add("a byte of flash", func(m *impl.Machine) { m.Mem.Flash[5]++ })
	b.add("a zero between words", func(m *impl.Machine) { m.Mem.Flash[31] = 1 })
	b.add("the last byte of flash", func(m *impl.Machine) { m.Mem.Flash[len(m.Mem.Flash)-1]++ })
	b.add("less flash", func(m *impl.Machine) { m.Mem.Flash = m.Mem.Flash[:len(m.Mem.Flash)-1] })
	b.add("more flash", func(m *impl.Machine) { m.Mem.Flash = append(m.Mem.Flash, 0) })
	b.add("no flash", func(m *impl.Machine) { m.Mem.Flash = nil })
	b.add("less Ram", func(m *impl.Machine) { m.Mem.Ram = m.Mem.Ram[:len(m.Mem.Ram)-1] })
	b.add("more Ram", func(m *impl.Machine) { m.Mem.Ram = append(m.Mem.Ram, 0) })
	b.add("no Ram", func(m *impl.Machine) { m.Mem.Ram = nil })
	b.add("too much Ram", func(m *impl.Machine) { m.Mem.Ram = make([]byte, 16385) })
	b.add("too much output", func(m *impl.Machine) { m.Mem.Out = make([]byte, 5001) })
}

func (b *machineList) addSlots() {
	b.add("a slot less", func(m *impl.Machine) { m.Slots = m.Slots[:2] })
	b.add("a slot more", func(m *impl.Machine) { m.Slots = append(m.Slots, impl.Slot{}) })
	b.add("no slots at all", func(m *impl.Machine) { m.Slots = nil })
	b.each("module of an unused slot", func(m *impl.Machine) *int { return &m.Slots[2].Mod }, -1, 1)
	b.each("bank of an unused slot", func(m *impl.Machine) *int { return &m.Slots[2].Bank }, -1, 1)
	b.each("turn of an unused slot", func(m *impl.Machine) *int { return &m.Slots[2].Turn }, -1, 1, 3)
	b.each("module of a slot", func(m *impl.Machine) *int { return &m.Slots[0].Mod }, -1, 0, 2, 3)
	b.each("bank of a slot", func(m *impl.Machine) *int { return &m.Slots[0].Bank }, -1, -2, 0, 2, 3)
	b.each("turn of a slot", func(m *impl.Machine) *int { return &m.Slots[0].Turn }, -1, 0, 2, 3)
	b.add("a used slot that is not", func(m *impl.Machine) { m.Slots[0].Used = false })
	b.add("the same bank twice", func(m *impl.Machine) {
		l := layoutAsTold(m.Mods, m.Config)
		copy(m.Mem.Ram[l.Slots[2]-65536:], slotText(*m, 1, 1))
		m.Turn = 3
		m.Slots[2] = impl.Slot{Used: true, Mod: 1, Bank: 1, Turn: 3}
	})
	b.add("the same turn twice", func(m *impl.Machine) {
		l := layoutAsTold(m.Mods, m.Config)
		copy(m.Mem.Ram[l.Slots[2]-65536:], slotText(*m, 1, 0))
		m.Turn = 3
		m.Slots[2] = impl.Slot{Used: true, Mod: 1, Bank: 0, Turn: 2}
	})
	b.add("a text in a slot", func(m *impl.Machine) {
		m.Turn = 3
		m.Slots[2] = impl.Slot{Used: true, Mod: 2, Bank: -1, Turn: 3}
	})
	for slot := range 2 {
		for _, at := range []int{0, 1, 35, 36, 71, 72, 95} {
			b.add(fmt.Sprint("byte ", at, " of slot ", slot), func(m *impl.Machine) {
				m.Mem.Ram[layoutAsTold(m.Mods, m.Config).Slots[slot]-65536+at]++
			})
		}
	}
}

func (b *machineList) addShadow() {
	b.add("a frame too many", func(m *impl.Machine) { m.Shadow = append(m.Shadow, m.Shadow...) })
	for i := range 2 {
		b.each(fmt.Sprint("module of frame ", i), func(m *impl.Machine) *int { return &m.Shadow[i].Mod }, -1, 3)
		b.each(fmt.Sprint("bank of frame ", i), func(m *impl.Machine) *int { return &m.Shadow[i].Bank }, -2, 3)
		b.each(fmt.Sprint("word of frame ", i), func(m *impl.Machine) *int { return &m.Shadow[i].At }, -1, 18)
		b.each(fmt.Sprint("base of frame ", i), func(m *impl.Machine) *int { return &m.Shadow[i].Base }, -1, wordEnd)
	}
	b.add("behind the end of a text", func(m *impl.Machine) { m.Shadow[0].At = 6 })
	b.add("a bank that the frame's module has not", func(m *impl.Machine) { m.Shadow[0].Bank = 1 })
}

func TestMachineOk(t *testing.T) {
	if impl.MachineOk(impl.Machine{}) || validAsTold(impl.Machine{}) {
		t.Errorf("nothing is valid")
	}
	for slots := 0; slots <= 4; slots++ {
		if m := calcMachine(slots); !impl.MachineOk(m) || !validAsTold(m) {
			t.Errorf("%d slots", slots)
		}
	}
	busy := busyMachine(t)
	for _, bad := range badMachines() {
		m := cloneMachine(busy)
		bad.change(&m)
		before := cloneMachine(m)
		if impl.MachineOk(m) || validAsTold(m) {
			t.Errorf("%s: %v, told %v", bad.what, impl.MachineOk(m), validAsTold(m))
		}
		if !sameMachine(m, before) {
			t.Errorf("%s: the machine is changed", bad.what)
		}
	}
}

// TestMachineOkOfOtherMachines changes one thing of the busy machine that does not make it wrong.
func TestMachineOkOfOtherMachines(t *testing.T) {
	for i, change := range []func(m *impl.Machine){
		func(m *impl.Machine) { m.Core.Pc = 4294967295 },
		func(m *impl.Machine) { m.Core.Pc = 0 },
		func(m *impl.Machine) { m.Core.Regs = make([]int, 8) },
		func(m *impl.Machine) { m.Core.Regs[7] = 4294967295 },
		func(m *impl.Machine) { m.Turn = lastTurn },
		func(m *impl.Machine) { m.Turn, m.Slots[0].Turn = lastTurn, lastTurn },
		func(m *impl.Machine) { m.Slots[0].Turn, m.Slots[1].Turn = 2, 1 },
		func(m *impl.Machine) { m.Bank = -1 },
		func(m *impl.Machine) { m.Mod, m.Bank = 2, -1 },
		func(m *impl.Machine) { m.Mod, m.Bank = 1, 1 },
		func(m *impl.Machine) { m.Slots[0], m.Shadow = impl.Slot{}, nil },
		func(m *impl.Machine) { m.Slots[0] = impl.Slot{} },
		func(m *impl.Machine) { m.Bank, m.Slots[0], m.Slots[1], m.Turn = -1, impl.Slot{}, impl.Slot{}, 0 },
		func(m *impl.Machine) { m.Shadow = append(m.Shadow, m.Shadow[0]) },
		func(m *impl.Machine) { m.Shadow[0].At, m.Shadow[1].At = 5, 17 },
		func(m *impl.Machine) { m.Shadow[0].At, m.Shadow[1].At = 0, 0 },
		func(m *impl.Machine) { m.Shadow[0] = impl.Frame{Mod: 2, Bank: 0, At: 16, Base: 4294967295} },
		func(m *impl.Machine) { m.Shadow[0] = impl.Frame{Mod: 2, Bank: -1} },
		func(m *impl.Machine) { m.Mem.Out = make([]byte, 5000) },
		func(m *impl.Machine) { m.Mem.Out = nil },
		func(m *impl.Machine) { m.Mem.Ram[0], m.Mem.Ram[200] = 200, 100 },
		func(m *impl.Machine) { m.Mem.Ram[len(m.Mem.Ram)-1]++ },
		func(m *impl.Machine) { m.Config.Words = 17 },
		func(m *impl.Machine) { m.Config.Words = 24 },
		func(m *impl.Machine) { m.Config.Depth = 2 },
		func(m *impl.Machine) { m.Config.Depth = 100 },
		func(m *impl.Machine) { m.Mods[1].Data[0]++ },
		func(m *impl.Machine) { m.Mods[0].Relocs = nil },
	} {
		m := busyMachine(t)
		change(&m)
		if !impl.MachineOk(m) || !validAsTold(m) {
			t.Errorf("change %d: %v, told %v", i, impl.MachineOk(m), validAsTold(m))
		}
	}
}

// TestMachineOkOfNoPiece has a Mod or a Bank that is no position, in machines in which no slot is asked for it.
func TestMachineOkOfNoPiece(t *testing.T) {
	for slots := 0; slots <= 1; slots++ {
		for _, mod := range numbersAround(3) {
			for _, bank := range numbersAround(3) {
				m := calcMachine(slots)
				m.Mod, m.Bank = mod, bank
				want := isIn(m.Mods, mod, bank) && (bank == -1 || slots == 0)
				if impl.MachineOk(m) != want || validAsTold(m) != want {
					t.Errorf("%d slots, module %d, bank %d: %v", slots, mod, bank, impl.MachineOk(m))
				}
				wantEnter(t, m, impl.Target{Mod: 1, Bank: -1})
				wantCall(t, m, impl.Target{Mod: 1, Bank: -1})
				wantReturn(t, m)
				wantTick(t, m)
			}
		}
	}
}

// TestMachineOkWantsFits has machines that differ in nothing but that one bank in one slot has too many regions.
func TestMachineOkWantsFits(t *testing.T) {
	for slots := 1; slots <= 4; slots++ {
		m := machineOf(fatProgram(16), impl.Config{Slots: slots, Words: 16, Stack: 512})
		if impl.MachineOk(m) != (slots < 4) || validAsTold(m) != (slots < 4) {
			t.Errorf("%d slots: %v", slots, impl.MachineOk(m))
		}
		wantEnter(t, m, impl.Target{Mod: 1, Bank: 0})
		wantTick(t, m)
	}
}

// TestInvalidMachinesAreGivenBack has all functions at machines that are not valid.
func TestInvalidMachinesAreGivenBack(t *testing.T) {
	busy := busyMachine(t)
	for _, bad := range append(badMachines(), badMachine{"nothing", func(m *impl.Machine) { *m = impl.Machine{} }}) {
		m := cloneMachine(busy)
		bad.change(&m)
		_, entered := wantEnter(t, m, impl.Target{Mod: 1, Bank: -1})
		_, code := wantCall(t, m, impl.Target{Mod: 1, Bank: -1})
		_, back := wantReturn(t, m)
		_, did, n := wantTick(t, m)
		if entered || code != impl.FaultBus || back || did != impl.DidFault || n != impl.FaultBus {
			t.Errorf("%s: %v %d %v %d %d", bad.what, entered, code, back, did, n)
		}
	}
}

// TestMachinesThatShareLists has machines of which two lists lie in the same memory: the answer's do not.
func TestMachinesThatShareLists(t *testing.T) {
	m := busyMachine(t)
	m.Mods[1].Imports = m.Mods[1].Imports[:1:1]
	m.Shadow = make([]impl.Frame, 2, 9)
	m.Core.Pc = originNow(m)
	bytes := slices.Concat(m.Mem.Flash, m.Mem.Ram)
	m.Mem.Flash, m.Mem.Ram = bytes[:len(m.Mem.Flash)], bytes[len(m.Mem.Flash):]
	m.Mem.Out = m.Mem.Flash[:3]
	wantEnter(t, m, impl.Target{Mod: 1, Bank: 0})
	wantCall(t, m, impl.Target{Mod: 1, Bank: 0})
	wantReturn(t, m)
	wantTick(t, m)
	m.Core.Pc = 3
	wantTick(t, m)
	m.Turn = -1
	wantEnter(t, m, impl.Target{})
	wantCall(t, m, impl.Target{})
	wantReturn(t, m)
	wantTick(t, m)
}
