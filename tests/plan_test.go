package tests

import (
	"fmt"
	"math"
	"slices"
	"testing"

	"loop.example/s01513/impl"
)

// wordsOf gives the words of a Text or bank that is there.
func wordsOf(mods []impl.Module, mod int, bank int) []int {
	if bank == -1 {
		return mods[mod].Text
	}
	return mods[mod].Banks[bank]
}

// stackOf gives the bytes of a layout's stack.
func stackOf(l impl.Layout) int {
	end := 65536 + l.Ram
	if len(l.Slots) > 0 {
		end = l.Slots[0]
	}
	return end - l.Stack
}

// originAsTold gives the address where a piece is executed.
func originAsTold(l impl.Layout, mod int, bank int, slot int) int {
	if bank == -1 {
		return l.Places[mod].Text
	}
	if slot == -1 {
		return l.Places[mod].Banks[bank]
	}
	return l.Slots[slot]
}

// pieceThere says whether a piece can be asked for, in that slot.
func pieceThere(mods []impl.Module, l impl.Layout, mod int, bank int, slot int) bool {
	if mod < 0 || mod >= len(mods) || bank < -1 || bank >= len(mods[mod].Banks) {
		return false
	}
	if bank == -1 || len(l.Slots) == 0 {
		return slot == -1
	}
	return slot >= 0 && slot < len(l.Slots)
}

// planAsTold gives what Plan does in a layout of the modules.
func planAsTold(mods []impl.Module, l impl.Layout, t impl.Target, slot int) ([]impl.Region, bool) {
	if !pieceThere(mods, l, t.Mod, t.Bank, slot) {
		return nil, false
	}
	var rs []impl.Region
	add := func(from int, size int, read bool, write bool, exec bool) {
		cover, _ := impl.Cover(from, size)
		for _, r := range cover {
			rs = append(rs, impl.Region{Base: r.Base, Log: r.Log, Off: r.Off, Read: read, Write: write, Exec: exec})
		}
	}
	add(l.Places[t.Mod].Data, l.Places[t.Mod].Size, true, true, false)
	add(l.Stack, stackOf(l), true, true, false)
	add(131072, 32, false, true, false)
	add(originAsTold(l, t.Mod, t.Bank, slot), rounded(4*len(wordsOf(mods, t.Mod, t.Bank))), false, false, true)
	if len(rs) > 8 {
		return nil, false
	}
	return rs, true
}

// fitsAsTold says what Fits does in a layout of the modules.
func fitsAsTold(mods []impl.Module, l impl.Layout) bool {
	for mod, m := range mods {
		for bank := -1; bank < len(m.Banks); bank++ {
			for slot := -1; slot < len(l.Slots); slot++ {
				if _, ok := planAsTold(mods, l, impl.Target{Mod: mod, Bank: bank}, slot); !ok && pieceThere(mods, l, mod, bank, slot) {
					return false
				}
			}
		}
	}
	return true
}

// wantPlan wants the regions as told, and nothing where there are none.
func wantPlan(t *testing.T, mods []impl.Module, l impl.Layout, target impl.Target, slot int) {
	t.Helper()
	want, good := planAsTold(mods, l, target, slot)
	got, ok := impl.Plan(mods, l, target, slot)
	if ok != good || !slices.Equal(got, want) {
		t.Fatalf("%v in slot %d of %v: %v %v, not %v %v", target, slot, l, got, ok, want, good)
	}
}

// wantJustTheseRights is promise 8, asked at every address in steps of Grain.
func wantJustTheseRights(t *testing.T, mods []impl.Module, l impl.Layout, target impl.Target, slot int, rs []impl.Region) {
	t.Helper()
	in := func(at int, from int, size int) bool { return at >= from && at < from+size }
	place := l.Places[target.Mod]
	origin := originAsTold(l, target.Mod, target.Bank, slot)
	length := rounded(4 * len(wordsOf(mods, target.Mod, target.Bank)))
	for at := 0; at < 262144; at += 32 {
		own := in(at, place.Data, place.Size) || in(at, l.Stack, stackOf(l))
		for _, c := range []struct {
			what int
			want bool
		}{{impl.ForRead, own}, {impl.ForWrite, own || at == 131072}, {impl.ForExec, in(at, origin, length)}} {
			for _, address := range []int{at, at + 31} {
				if impl.Allowed(rs, address, 1, c.what) != c.want {
					t.Fatalf("%v in slot %d of %v: right %d at %d is not %v", target, slot, l, c.what, address, c.want)
				}
			}
		}
	}
}

// fatProgram has a module of which all but one region are taken by data, stack and Port.
// Its Text has words words, and so has its bank.
func fatProgram(words int) []impl.Module {
	fat := impl.Module{Name: "fat", Data: numbered(512, 3), Text: make([]int, words), Banks: [][]int{make([]int, words)}}
	return []impl.Module{{Name: "small", Data: numbered(32, 1)}, fat}
}

func TestPlanInPlainNumbers(t *testing.T) {
	mods := []impl.Module{mainModule(), libModule(), bareModule()}
	slots, _ := impl.Link(mods, impl.Config{Slots: 2, Words: 9, Stack: 96, Depth: 3})
	flat, _ := impl.Link(mods, impl.Config{Words: 1, Stack: 64})
	none, _ := impl.Link(mods, impl.Config{Slots: 1, Words: 9})
	bare, _ := impl.Link(mods[2:], impl.Config{Words: 1})
	port := impl.Region{Base: 131072, Log: 5, Write: true}
	both := func(base int, log int, off int) impl.Region {
		return impl.Region{Base: base, Log: log, Off: off, Read: true, Write: true}
	}
	run := func(base int, log int, off int) impl.Region {
		return impl.Region{Base: base, Log: log, Off: off, Exec: true}
	}
	mainData, libData, stack, shortStack := both(65536, 5, 0), both(65536, 8, 0b11111001), both(65536, 8, 0b11000111), both(65536, 8, 0b11100111)
	for i, c := range []struct {
		mods []impl.Module
		l    impl.Layout
		t    impl.Target
		slot int
		want []impl.Region
	}{
		{mods, slots, impl.Target{Mod: 0, Bank: -1}, -1, []impl.Region{mainData, stack, port, run(0, 5, 0)}},
		{mods, slots, impl.Target{Mod: 0, Bank: 0}, 0, []impl.Region{mainData, stack, port, run(65728, 6, 0)}},
		{mods, slots, impl.Target{Mod: 0, Bank: 0}, 1, []impl.Region{mainData, stack, port, run(65792, 6, 0)}},
		{mods, slots, impl.Target{Mod: 1, Bank: -1}, -1, []impl.Region{libData, stack, port, run(0, 8, 0b11100111)}},
		{mods, slots, impl.Target{Mod: 1, Bank: 1}, 1, []impl.Region{libData, stack, port, run(65792, 5, 0)}},
		{mods, slots, impl.Target{Mod: 2, Bank: -1}, -1, []impl.Region{stack, port}},
		{mods, flat, impl.Target{Mod: 0, Bank: 0}, -1, []impl.Region{mainData, shortStack, port, run(0, 8, 0b11111001)}},
		{mods, flat, impl.Target{Mod: 1, Bank: 1}, -1, []impl.Region{libData, shortStack, port, run(192, 5, 0)}},
		{mods, none, impl.Target{Mod: 1, Bank: 0}, 0, []impl.Region{libData, port, run(65632, 5, 0)}},
		{mods[2:], bare, impl.Target{Mod: 0, Bank: -1}, -1, []impl.Region{port}},
	} {
		if got, ok := impl.Plan(c.mods, c.l, c.t, c.slot); !ok || !slices.Equal(got, c.want) {
			t.Errorf("case %d: %v %v", i, got, ok)
		}
		wantJustTheseRights(t, c.mods, c.l, c.t, c.slot, c.want)
	}
}

// numbersAround has positions, what lies beside them, and the ends of int.
func numbersAround(n int) []int {
	all := []int{math.MinInt, math.MinInt + 1, -65536, -3, -2, math.MaxInt - 1, math.MaxInt, 65536}
	for i := -1; i <= n+1; i++ {
		all = append(all, i)
	}
	return all
}

// TestPlanOfEveryPiece has all pieces of programs in all slots, and what is no piece or no slot.
func TestPlanOfEveryPiece(t *testing.T) {
	for _, mods := range append(programs(), fatProgram(8), fatProgram(16)) {
		before := cloneModules(mods)
		for _, c := range someConfigs() {
			l, code := linkAsTold(mods, c)
			if code != 0 {
				continue
			}
			text := textOf(l)
			for _, mod := range numbersAround(len(mods)) {
				for _, bank := range numbersAround(4) {
					for _, slot := range numbersAround(len(l.Slots)) {
						wantPlan(t, mods, l, impl.Target{Mod: mod, Bank: bank}, slot)
					}
				}
			}
			if !sameModules(mods, before) || textOf(l) != text {
				t.Fatalf("%v: an argument is changed", c)
			}
		}
	}
}

// TestPlanGivesJustTheRights is promise 8 for all plans of programs.
func TestPlanGivesJustTheRights(t *testing.T) {
	plans, refused := 0, 0
	for _, mods := range append(programs(), fatProgram(8), fatProgram(16)) {
		for _, c := range append(someConfigs(), impl.Config{Slots: 4, Words: 16, Stack: 512}) {
			l, code := linkAsTold(mods, c)
			for mod := 0; code == 0 && mod < len(mods); mod++ {
				for bank := -1; bank < len(mods[mod].Banks); bank++ {
					for slot := -1; slot < len(l.Slots); slot++ {
						target := impl.Target{Mod: mod, Bank: bank}
						if rs, ok := impl.Plan(mods, l, target, slot); ok {
							plans++
							wantJustTheseRights(t, mods, l, target, slot, rs)
						} else if pieceThere(mods, l, mod, bank, slot) {
							refused++
						}
					}
				}
			}
		}
	}
	if plans < 200 || refused == 0 {
		t.Errorf("%d plans, %d with too many regions", plans, refused)
	}
}

// TestPlanDoesNotAskForAt has the same regions at any At.
func TestPlanDoesNotAskForAt(t *testing.T) {
	mods := []impl.Module{mainModule(), libModule()}
	l, _ := impl.Link(mods, impl.Config{Slots: 2, Words: 9, Stack: 96})
	for _, at := range numbersAround(9) {
		wantPlan(t, mods, l, impl.Target{Mod: 1, Bank: 1, At: at}, 1)
		wantPlan(t, mods, l, impl.Target{Mod: 1, Bank: -1, At: at}, -1)
		wantPlan(t, mods, l, impl.Target{Mod: 1, Bank: 2, At: at}, 1)
	}
}

// TestPlanOfMaxRegions has a Text and a bank that take the eighth region, and ones that would take a ninth.
func TestPlanOfMaxRegions(t *testing.T) {
	for _, c := range []struct {
		words, bank, slot, regions int
	}{
		{8, -1, -1, 8}, {16, -1, -1, 8}, {72, -1, -1, 0}, {200, -1, -1, 0}, {0, -1, -1, 7},
		{16, 0, 0, 8}, {16, 0, 1, 8}, {16, 0, 2, 8}, {16, 0, 3, 0}, {8, 0, 3, 8}, {9, 0, 3, 0},
	} {
		mods := fatProgram(c.words)
		if c.bank == -1 {
			mods[1].Banks = nil
		}
		l, code := impl.Link(mods, impl.Config{Slots: 4, Words: 16, Stack: 512})
		rs, ok := impl.Plan(mods, l, impl.Target{Mod: 1, Bank: c.bank}, c.slot)
		if code != 0 || ok != (c.regions > 0) || len(rs) != c.regions {
			t.Errorf("%v: %d %v %d", c, code, ok, len(rs))
		}
	}
}

// TestFitsWhereOnePlaceDoesNot has a bank that lies across a border of 256 bytes in the last slot alone, or in flash.
func TestFitsWhereOnePlaceDoesNot(t *testing.T) {
	for slots := 1; slots <= 4; slots++ {
		mods := fatProgram(16)
		l, code := impl.Link(mods, impl.Config{Slots: slots, Words: 16, Stack: 512})
		if fits := impl.Fits(mods, l); code != 0 || fits != (slots < 4) {
			t.Errorf("%d slots: %d %v", slots, code, fits)
		}
		short := fatProgram(8)
		if l, code = impl.Link(short, impl.Config{Slots: slots, Words: 16, Stack: 512}); code != 0 || !impl.Fits(short, l) {
			t.Errorf("%d slots, a short bank: %d", slots, code)
		}
	}
	for grains := 0; grains < 16; grains++ {
		mods := fatProgram(16)
		mods[0].Text = make([]int, 8*grains)
		l, code := impl.Link(mods, impl.Config{Words: 1, Stack: 512})
		want := grains%8 != 7 && grains%8 != 5
		if fits := impl.Fits(mods, l); code != 0 || fits != want {
			t.Errorf("from %d on: %d %v", l.Places[1].Text, code, fits)
		}
	}
}

// TestFitsOfOtherMods finds what does not fit in any of the modules, the last bank counted in.
func TestFitsOfOtherMods(t *testing.T) {
	for _, words := range [][]int{{16, 1, 1, 1}, {1, 16, 1, 1}, {1, 1, 16, 1}, {1, 1, 1, 16}, {1, 1, 1, 1}} {
		mods := fatProgram(1)
		mods[1].Banks = nil
		long := false
		for _, n := range words {
			mods[1].Banks = append(mods[1].Banks, make([]int, n))
			long = long || n == 16
		}
		l, code := impl.Link(mods, impl.Config{Slots: 4, Words: 16, Stack: 512})
		if fits := impl.Fits(mods, l); code != 0 || fits == long {
			t.Errorf("%v: %d %v", words, code, fits)
		}
	}
}

func TestFitsAsTold(t *testing.T) {
	yes, no := 0, 0
	for i, mods := range append(programs(), fatProgram(1), fatProgram(16), fatProgram(64)) {
		before := cloneModules(mods)
		for _, c := range everyConfig(i) {
			if c.Words%8 > 1 {
				continue
			}
			l, code := linkAsTold(mods, c)
			if code != 0 {
				continue
			}
			want := fitsAsTold(mods, l)
			if got := impl.Fits(mods, l); got != want {
				t.Fatalf("program %d, %v: %v", i, c, got)
			}
			if want {
				yes++
			} else {
				no++
			}
		}
		if !sameModules(mods, before) {
			t.Errorf("program %d is changed", i)
		}
	}
	if yes < 100 || no < 100 {
		t.Errorf("%d fit, %d do not", yes, no)
	}
}

// wantPlanIf wants plans just when the layout is one of those of the modules.
func wantPlanIf(t *testing.T, mods []impl.Module, l impl.Layout, good bool, what string) {
	t.Helper()
	before, text := cloneModules(mods), textOf(l)
	fits := impl.Fits(mods, l)
	if want := good && fitsAsTold(mods, l); fits != want {
		t.Fatalf("%s: fits %v: %v", what, l, fits)
	}
	for slot := -1; slot <= 1; slot++ {
		for bank := -1; bank <= 1; bank++ {
			target := impl.Target{Mod: 0, Bank: bank}
			if good {
				wantPlan(t, mods, l, target, slot)
			} else if rs, ok := impl.Plan(mods, l, target, slot); ok || len(rs) != 0 {
				t.Fatalf("%s: %v: %v", what, l, rs)
			}
		}
	}
	if !sameModules(mods, before) || textOf(l) != text {
		t.Fatalf("%s: an argument is changed", what)
	}
}

// TestPlanOfOtherLayouts has layouts in which one number is another one, or a list longer or shorter.
func TestPlanOfOtherLayouts(t *testing.T) {
	eachLayout(func(mods []impl.Module, all map[string]bool, l impl.Layout) {
		for i := range numbersOf(&l) {
			for _, by := range []int{0, 1, -1, 32, -32, 256, 65536, math.MaxInt, math.MinInt} {
				x := cloneLayout(l)
				*numbersOf(&x)[i] += by
				wantPlanIf(t, mods, x, all[textOf(x)], "a number")
			}
		}
		for i, change := range []func(x *impl.Layout){
			func(x *impl.Layout) { x.Places = nil },
			func(x *impl.Layout) { x.Places = x.Places[1:] },
			func(x *impl.Layout) { x.Places[0].Banks = append(x.Places[0].Banks, 0) },
			func(x *impl.Layout) { x.Slots = append(x.Slots, 65536) },
			func(x *impl.Layout) { x.Slots = nil },
			func(x *impl.Layout) { x.Targets = nil },
			func(x *impl.Layout) { x.Targets[0] = append(x.Targets[0], impl.Target{}) },
			func(x *impl.Layout) { *x = impl.Layout{} },
		} {
			x := cloneLayout(l)
			change(&x)
			wantPlanIf(t, mods, x, all[textOf(x)], fmt.Sprint("list ", i))
		}
	})
}

// TestPlanOfOtherModules has modules of which the layout is not one.
func TestPlanOfOtherModules(t *testing.T) {
	mods := []impl.Module{mainModule(), libModule()}
	l, _ := impl.Link(mods, impl.Config{Slots: 2, Words: 9, Stack: 32})
	wantPlanIf(t, mods, l, true, "all is well")
	for _, bad := range badPrograms() {
		if bad.code > 1 && bad.code < 6 {
			p := someProgram()
			bad.change(p)
			wantPlanIf(t, p.mods, l, false, bad.what)
		}
	}
	wantPlanIf(t, nil, l, false, "no modules")
	wantPlanIf(t, nil, impl.Layout{}, false, "nothing at all")
	wantPlanIf(t, mods[1:], l, false, "one module")
	wantPlanIf(t, []impl.Module{mods[1], mods[0]}, l, false, "the other order")
}

func TestPlanGivesNewMemory(t *testing.T) {
	for _, mods := range programs() {
		for _, c := range someConfigs() {
			l, _ := impl.Link(mods, c)
			rs, _ := impl.Plan(mods, l, impl.Target{Bank: -1}, -1)
			again, _ := impl.Plan(mods, l, impl.Target{Bank: -1}, -1)
			wantNewMemory(t, rs, mods, l, again)
		}
	}
}
