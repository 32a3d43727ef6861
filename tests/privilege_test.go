package tests

import (
	"fmt"
	"slices"
	"testing"

	"loop.example/s01513/impl"
)

// guardProgram has a module whose pieces store register 1 at register 0 some ticks behind a call, an import or a return.
func guardProgram() []impl.Module {
	nop, stop, back := ins(impl.OpMove, 4, 4, 0), ins(impl.OpStop, 0, 0, 0), ins(impl.OpReturn, 0, 0, 0)
	store := ins(impl.OpStoreW, 1, 0, 0)
	words := []int{
		// call: a call of what stores
		ins(impl.OpCall, 0, 0, 1), stop, nop, nop, store, nop, stop,
		// back: the store is behind the return from a call
		ins(impl.OpCall, 0, 0, 1), ins(impl.OpJump, 0, 0, low(-7)), nop, back,
		// away: the store is behind the return from another module
		ins(impl.OpImport, 0, 0, 0), ins(impl.OpJump, 0, 0, low(-11)),
		// other: another module stores
		ins(impl.OpImport, 0, 0, 1), stop,
		// own: another bank of the module stores
		ins(impl.OpImport, 0, 0, 2), stop,
		// both: another module stores, then this one does
		ins(impl.OpImport, 0, 0, 1), ins(impl.OpJump, 0, 0, low(-17)),
	}
	writer := []int{nop, store, nop, back}
	m := impl.Module{Name: "here", Text: words, Banks: [][]int{words, writer}, Data: numbered(40, 70), Bss: 8, Imports: []string{"behind.quiet", "behind.writes", "here.writes"}}
	m.Exports = []impl.Export{{Name: "writes", Bank: 1}}
	for _, w := range guardWays() {
		m.Exports = append(m.Exports, impl.Export{Name: "t" + w.name, Bank: -1, At: w.at}, impl.Export{Name: "b" + w.name, Bank: 0, At: w.at})
	}
	return []impl.Module{
		{Name: "ahead", Text: []int{back}, Data: numbered(32, 9)}, m,
		{Name: "behind", Banks: [][]int{{nop, back}, writer}, Data: numbered(32, 200), Exports: []impl.Export{{Name: "quiet", Bank: 0}, {Name: "writes", Bank: 1}}},
	}
}

// guardWay is a way to come to the store: where it begins, which modules store, at which ticks, and with how many ticks it stops.
type guardWay struct {
	name   string
	at     int
	mods   []int
	stores []int
	ticks  int
}

func guardWays() []guardWay {
	return []guardWay{
		{"call", 0, []int{1}, []int{4}, 6}, {"back", 7, []int{1}, []int{7}, 9}, {"away", 11, []int{1}, []int{7}, 9},
		{"other", 13, []int{2}, []int{3}, 6}, {"own", 15, []int{1}, []int{3}, 6}, {"both", 17, []int{2, 1}, []int{3, 9}, 11},
	}
}

// storeFault gives the fault of a module's store of a word.
func storeFault(l impl.Layout, mod int, at int) int {
	place := l.Places[mod]
	switch {
	case at >= place.Data && at < place.Data+place.Size, at >= l.Stack && at < l.Stack+64, at == 131072:
		return 0
	case at > 131072 && at < 131104:
		return impl.FaultBus
	}
	return impl.FaultRegion
}

// wantGuarded wants that a run ends at the first store that its module may not do, with nothing written by it.
func wantGuarded(t *testing.T, m impl.Machine, way guardWay, name string, at int) {
	t.Helper()
	const value = 0x81828384
	l := layoutAsTold(m.Mods, m.Config)
	want := impl.Outcome{Kind: impl.EndStop, Value: at, Used: way.ticks}
	mem := cloneMem(m.Mem)
	for i, mod := range way.mods {
		if fault := storeFault(l, mod, at); fault != 0 {
			want = impl.Outcome{Kind: impl.EndFault, Value: fault, Used: way.stores[i], Out: mem.Out}
			break
		}
		mem, _ = writeAsTold(mem, at, 4, value)
		want.Out = mem.Out
	}
	got, o := impl.Run(begun(t, m, name, at, value), 100)
	if !sameOutcome(o, want) {
		t.Fatalf("%s, %d slots, at %d: %v, not %v", name, m.Config.Slots, at, o, want)
	}
	end := l.Stack + 64 - 65536
	if !slices.Equal(got.Mem.Ram[:end], mem.Ram[:end]) || !slices.Equal(got.Mem.Flash, m.Mem.Flash) || !impl.MachineOk(got) {
		t.Fatalf("%s, %d slots, at %d: other bytes are changed", name, m.Config.Slots, at)
	}
}

// TestPrivilegeIsGivenBack has stores into every word of the Ram, slots and other modules' data among them, into Flash and around Port,
// some ticks behind a call, an import or a return: what a module may do there is what it may do ahead of it.
func TestPrivilegeIsGivenBack(t *testing.T) {
	for slots := 0; slots <= 4; slots++ {
		m := loaded(t, guardProgram(), impl.Config{Slots: slots, Words: 20, Stack: 64, Depth: 2})
		l := layoutAsTold(m.Mods, m.Config)
		addresses := []int{l.Flash, 65532, 65536 + l.Ram, 131068, 131072, 131076, 131100, 131104, 4294967292}
		for at := 0; at < l.Flash; at += 4 {
			addresses = append(addresses, at)
		}
		for at := 0; at < l.Ram; at += 4 {
			addresses = append(addresses, 65536+at)
		}
		for _, way := range guardWays() {
			for _, at := range addresses {
				wantGuarded(t, m, way, "here.t"+way.name, at)
				wantGuarded(t, m, way, "here.b"+way.name, at)
			}
		}
	}
}

// TestRightsOfACallAreThoseOfItsPiece has a jump into the piece that was left, behind a call, an import and a return: it is not executed.
func TestRightsOfACallAreThoseOfItsPiece(t *testing.T) {
	stop := ins(impl.OpStop, 0, 0, 0)
	for slots := 0; slots <= 4; slots++ {
		for words := 8; words <= 16; words += 8 {
			for away := -40; away <= 40; away++ {
				jump := ins(impl.OpJump, 0, 0, low(away-1))
				full := slices.Repeat([]int{stop}, 8)
				mods := []impl.Module{
					{Name: "a", Banks: [][]int{full, {ins(impl.OpImport, 0, 0, 0), jump, stop, stop, stop, stop, stop, stop}, full}, Imports: []string{"b.f"}, Exports: []impl.Export{{Name: "f", Bank: 1}}},
					{Name: "b", Banks: [][]int{full, {ins(impl.OpReturn, 0, 0, 0)}, full}, Exports: []impl.Export{{Name: "f", Bank: 1}}},
				}
				m := begun(t, loaded(t, mods, impl.Config{Slots: slots, Words: words, Depth: 1}), "a.f")
				want := impl.Outcome{Kind: impl.EndFault, Value: impl.FaultRegion, Used: 4}
				switch to := 1 + away; {
				case to == 0, to == 1:
					want = impl.Outcome{Kind: impl.EndFuel, Used: 50}
				case to > 1 && to < 8:
					want = impl.Outcome{Kind: impl.EndStop, Used: 4}
				}
				wantEnd(t, fmt.Sprint(slots, " slots, a jump by ", away), m, 50, want)
			}
		}
	}
}
