package tests

import (
	"fmt"
	"math"
	"slices"
	"strings"
	"testing"

	"loop.example/s01513/impl"
)

// libModule and mainModule make a program: the one uses the other, and both use themselves.
func libModule() impl.Module {
	return impl.Module{
		Name: "lib", Text: []int{1, 2, 3, 4, 5, 6, 7, 8, 9}, Banks: [][]int{{11, 12, 13, 14, 15, 16, 17, 18}, {21}}, Data: numbered(33, 5),
		Imports: []string{"lib.f"}, Exports: []impl.Export{{Name: "f", Bank: 1}, {Name: "g", Bank: -1, At: 8}},
	}
}

func mainModule() impl.Module {
	return impl.Module{
		Name: "main", Text: []int{4294967295}, Banks: [][]int{{31, 32, 33, 34, 35, 36, 37, 38, 39}}, Data: []byte{1, 2, 3, 4, 255, 255, 255, 255, 9, 8, 7, 6}, Bss: 20, Relocs: []int{0, 4},
		Imports: []string{"lib.g", "main.m", "lib.f"}, Exports: []impl.Export{{Name: "m", Bank: 0, At: 8}},
	}
}

func bareModule() impl.Module {
	return impl.Module{Name: "bare"}
}

func bssModule() impl.Module {
	return impl.Module{Name: "bss", Bss: 1, Imports: []string{"lib.g"}}
}

// programs are lists of modules that can be linked.
func programs() [][]impl.Module {
	return [][]impl.Module{
		{bareModule()},
		{someAlone()},
		{mainModule(), libModule()},
		{bareModule(), libModule(), bssModule(), mainModule()},
		{fullModule("full")},
		{fullModule("a"), fullModule("b"), fullModule("c"), fullModule("d")},
	}
}

func someAlone() impl.Module {
	m := someModule()
	m.Imports = []string{"some.a"}
	return m
}

func TestConfigOk(t *testing.T) {
	good := impl.Config{Slots: 1, Words: 5, Stack: 96, Depth: 7}
	for _, c := range []struct {
		set  func(c *impl.Config, v int)
		yes  []int
		nope []int
	}{
		{func(c *impl.Config, v int) { c.Slots = v }, []int{0, 1, 2, 3, 4}, []int{-1, 5, math.MinInt, math.MaxInt}},
		{func(c *impl.Config, v int) { c.Words = v }, []int{1, 2, 31, 63, 64}, []int{0, -1, 65, math.MinInt, math.MaxInt}},
		{func(c *impl.Config, v int) { c.Stack = v }, []int{0, 32, 64, 512, 992, 1024}, []int{-32, -1, 1, 16, 31, 33, 1023, 1025, 1056, math.MinInt, math.MaxInt, math.MaxInt - 31}},
		{func(c *impl.Config, v int) { c.Depth = v }, []int{0, 1, 99, 100}, []int{-1, 101, math.MinInt, math.MaxInt}},
	} {
		for _, v := range c.yes {
			x := good
			if c.set(&x, v); !impl.ConfigOk(x) {
				t.Errorf("%v is refused", x)
			}
		}
		for _, v := range c.nope {
			x := good
			if c.set(&x, v); impl.ConfigOk(x) {
				t.Errorf("%v is taken", x)
			}
		}
	}
	if impl.ConfigOk(impl.Config{}) || !impl.ConfigOk(impl.Config{Words: 1}) || !impl.ConfigOk(impl.Config{Slots: 4, Words: 64, Stack: 1024, Depth: 100}) {
		t.Errorf("the least and the greatest")
	}
}

// resolveAsTold goes through all modules and exports.
func resolveAsTold(mods []impl.Module, name string) (impl.Target, bool) {
	if !importForm.MatchString(name) || len(mods) > 4 {
		return impl.Target{}, false
	}
	module, export, _ := strings.Cut(name, ".")
	for _, m := range mods {
		if len(m.Exports) > 16 {
			return impl.Target{}, false
		}
	}
	for i, m := range mods {
		if m.Name != module {
			continue
		}
		for _, e := range m.Exports {
			if e.Name == export {
				return impl.Target{Mod: i, Bank: e.Bank, At: e.At}, true
			}
		}
		return impl.Target{}, false
	}
	return impl.Target{}, false
}

func TestResolve(t *testing.T) {
	exports := func(list ...impl.Export) []impl.Export { return list }
	mods := []impl.Module{
		{Name: "one", Exports: exports(impl.Export{Name: "x", Bank: -1, At: 4}, impl.Export{Name: "y", Bank: math.MinInt, At: math.MaxInt})},
		{Name: "two", Exports: exports(impl.Export{Name: "x", Bank: 2, At: 7}, impl.Export{Name: "x", Bank: 3, At: 8}, impl.Export{Name: "one", Bank: 1, At: 1})},
		{Name: "one", Exports: exports(impl.Export{Name: "x", Bank: 9, At: 9}, impl.Export{Name: "z", Bank: 9, At: 9})},
		{Name: "t.o", Bss: -1, Exports: exports(impl.Export{Name: "", Bank: 1}, impl.Export{Name: "x.y"}, impl.Export{Name: "x"})},
	}
	for _, c := range []struct {
		name string
		want impl.Target
		ok   bool
	}{
		{"one.x", impl.Target{Mod: 0, Bank: -1, At: 4}, true}, {"one.y", impl.Target{Mod: 0, Bank: math.MinInt, At: math.MaxInt}, true},
		{"two.x", impl.Target{Mod: 1, Bank: 2, At: 7}, true}, {"two.one", impl.Target{Mod: 1, Bank: 1, At: 1}, true},
		{"one.z", impl.Target{}, false}, {"one.one", impl.Target{}, false}, {"three.x", impl.Target{}, false}, {"x.one", impl.Target{}, false},
		{"one", impl.Target{}, false}, {"one.", impl.Target{}, false}, {".x", impl.Target{}, false}, {".", impl.Target{}, false}, {"", impl.Target{}, false}, {"onex", impl.Target{}, false},
		{"one.x.", impl.Target{}, false}, {"one..x", impl.Target{}, false}, {".one.x", impl.Target{}, false}, {"two.x.y", impl.Target{}, false}, {"t.o.x", impl.Target{}, false}, {"t.o.", impl.Target{}, false}, {"t.x.y", impl.Target{}, false},
		{"One.x", impl.Target{}, false}, {"one.X", impl.Target{}, false}, {" one.x", impl.Target{}, false}, {"one.x ", impl.Target{}, false}, {"one/x", impl.Target{}, false},
	} {
		before := cloneModules(mods)
		if got, ok := impl.Resolve(mods, c.name); ok != c.ok || got != c.want {
			t.Errorf("%q: %v %v", c.name, got, ok)
		}
		if told, ok := resolveAsTold(mods, c.name); ok != c.ok || told != c.want {
			t.Errorf("%q: the test tells %v %v", c.name, told, ok)
		}
		if !sameModules(mods, before) {
			t.Errorf("%q: the modules are changed", c.name)
		}
	}
}

// TestResolveOfNothing has modules and exports whose names are what is left of texts that are no names.
func TestResolveOfNothing(t *testing.T) {
	var exports []impl.Export
	for _, name := range []string{"", ".", "x", "x.", ".x", "A"} {
		exports = append(exports, impl.Export{Name: name, Bank: 1, At: 1})
	}
	for _, module := range []string{"", ".", "A", "x."} {
		mods := []impl.Module{{Name: module, Exports: exports}}
		for _, e := range exports {
			for _, name := range []string{module + "." + e.Name, module + e.Name, e.Name, module} {
				if got, ok := impl.Resolve(mods, name); ok || got != (impl.Target{}) {
					t.Errorf("%q in %q: %v %v", name, module, got, ok)
				}
			}
		}
	}
}

func TestResolveOfLongNames(t *testing.T) {
	long := impl.Module{Name: letters(12, 0), Exports: []impl.Export{{Name: letters(12, 1), At: 3}}}
	tooLong := impl.Module{Name: letters(13, 0), Exports: []impl.Export{{Name: letters(13, 1), At: 3}, {Name: "x", At: 3}}}
	mods := []impl.Module{tooLong, long}
	if got, ok := impl.Resolve(mods, letters(12, 0)+"."+letters(12, 1)); !ok || got != (impl.Target{Mod: 1, At: 3}) {
		t.Errorf("%v %v", got, ok)
	}
	for _, name := range []string{letters(13, 0) + ".x", letters(13, 0) + "." + letters(13, 1), letters(12, 0) + "." + letters(13, 1)} {
		if got, ok := impl.Resolve(mods, name); ok || got != (impl.Target{}) {
			t.Errorf("%q: %v %v", name, got, ok)
		}
	}
}

func TestResolveOfTooMany(t *testing.T) {
	named := impl.Module{Name: "one", Exports: []impl.Export{{Name: "x", At: 5}}}
	many := impl.Module{Name: "many"}
	for i := range 16 {
		many.Exports = append(many.Exports, impl.Export{Name: letters(2, i), At: i})
	}
	more := cloneModule(many)
	more.Exports = append(more.Exports, impl.Export{Name: "last"})
	other := impl.Module{Name: "other"}
	for i, c := range []struct {
		mods []impl.Module
		ok   bool
	}{
		{nil, false}, {[]impl.Module{}, false}, {[]impl.Module{named}, true}, {[]impl.Module{named, other, other, other}, true}, {[]impl.Module{named, other, other, other, other}, false},
		{[]impl.Module{named, many}, true}, {[]impl.Module{named, more}, false}, {[]impl.Module{named, other, other, more}, false}, {make([]impl.Module, 5), false},
	} {
		want := impl.Target{}
		if c.ok {
			want = impl.Target{Mod: 0, At: 5}
		}
		if got, ok := impl.Resolve(c.mods, "one.x"); ok != c.ok || got != want {
			t.Errorf("modules %d: %v %v", i, got, ok)
		}
	}
	if got, ok := impl.Resolve([]impl.Module{many}, "many."+letters(2, 15)); !ok || got != (impl.Target{At: 15}) {
		t.Errorf("the last of 16: %v %v", got, ok)
	}
	if got, ok := impl.Resolve([]impl.Module{more}, "many."+letters(2, 0)); ok || got != (impl.Target{}) {
		t.Errorf("the first of 17: %v %v", got, ok)
	}
}

// rounded counts on to the next multiple of 32.
func rounded(n int) int {
	for n%32 != 0 {
		n++
	}
	return n
}

// layoutAsTold places modules that can be linked, with any configuration.
func layoutAsTold(mods []impl.Module, c impl.Config) impl.Layout {
	var l impl.Layout
	for _, m := range mods {
		p := impl.Place{Text: l.Flash, Data: 65536 + l.Ram, Size: rounded(len(m.Data) + m.Bss)}
		l.Flash += rounded(4 * len(m.Text))
		for _, bank := range m.Banks {
			p.Banks = append(p.Banks, l.Flash)
			l.Flash += rounded(4 * len(bank))
		}
		l.Ram += p.Size
		l.Places = append(l.Places, p)
		var ts []impl.Target
		for _, name := range m.Imports {
			target, _ := resolveAsTold(mods, name)
			ts = append(ts, target)
		}
		l.Targets = append(l.Targets, ts)
	}
	l.Stack = 65536 + l.Ram
	l.Ram += c.Stack
	for range c.Slots {
		l.Slots = append(l.Slots, 65536+l.Ram)
		l.Ram += rounded(4 * c.Words)
	}
	return l
}

// linkAsTold gives what Link does, for valid configurations and modules that can be linked but for their banks.
func linkAsTold(mods []impl.Module, c impl.Config) (impl.Layout, int) {
	for _, m := range mods {
		for _, bank := range m.Banks {
			if c.Slots != 0 && len(bank) > c.Words {
				return impl.Layout{}, 6
			}
		}
	}
	l := layoutAsTold(mods, c)
	if l.Flash > 16384 {
		return impl.Layout{}, 7
	}
	if l.Ram > 16384 {
		return impl.Layout{}, 8
	}
	return l, 0
}

// textOf gives a text that two layouts have in common only if they are the same; nil lists are empty ones.
func textOf(l impl.Layout) string {
	return fmt.Sprint(l)
}

func everyConfig(depth int) []impl.Config {
	var all []impl.Config
	for slots := 0; slots <= 4; slots++ {
		for words := 1; words <= 64; words++ {
			for stack := 0; stack <= 1024; stack += 32 {
				all = append(all, impl.Config{Slots: slots, Words: words, Stack: stack, Depth: depth})
			}
		}
	}
	return all
}

func someConfigs() []impl.Config {
	return []impl.Config{
		{Words: 1}, {Words: 64, Stack: 32}, {Words: 9, Stack: 1024, Depth: 100}, {Slots: 1, Words: 64}, {Slots: 1, Words: 9, Stack: 64}, {Slots: 2, Words: 16}, {Slots: 2, Words: 17, Stack: 96, Depth: 1},
		{Slots: 4, Words: 64, Stack: 1024, Depth: 100}, {Slots: 3, Words: 8, Stack: 32}, {Slots: 4, Words: 1},
	}
}

func TestLinkInPlainNumbers(t *testing.T) {
	l, code := impl.Link([]impl.Module{mainModule(), libModule()}, impl.Config{Slots: 2, Words: 9, Stack: 96, Depth: 3})
	want := impl.Layout{
		Places: []impl.Place{{Text: 0, Banks: []int{32}, Data: 65536, Size: 32}, {Text: 96, Banks: []int{160, 192}, Data: 65568, Size: 64}},
		Stack:  65632, Slots: []int{65728, 65792}, Flash: 224, Ram: 320,
		Targets: [][]impl.Target{{{Mod: 1, Bank: -1, At: 8}, {Mod: 0, Bank: 0, At: 8}, {Mod: 1, Bank: 1}}, {{Mod: 1, Bank: 1}}},
	}
	if code != 0 || textOf(l) != textOf(want) {
		t.Errorf("%v %d", l, code)
	}
	l, code = impl.Link([]impl.Module{bareModule()}, impl.Config{Words: 1})
	want = impl.Layout{Places: []impl.Place{{Data: 65536}}, Stack: 65536, Targets: make([][]impl.Target, 1)}
	if code != 0 || textOf(l) != textOf(want) {
		t.Errorf("%v %d", l, code)
	}
	l, code = impl.Link([]impl.Module{bareModule(), libModule(), bssModule()}, impl.Config{Slots: 1, Words: 8})
	want = impl.Layout{
		Places: []impl.Place{{Text: 0, Data: 65536, Size: 0}, {Text: 0, Banks: []int{64, 96}, Data: 65536, Size: 64}, {Text: 128, Data: 65600, Size: 32}},
		Stack:  65632, Slots: []int{65632}, Flash: 128, Ram: 128,
		Targets: [][]impl.Target{nil, {{Mod: 1, Bank: 1}}, {{Mod: 1, Bank: -1, At: 8}}},
	}
	if code != 0 || textOf(l) != textOf(want) {
		t.Errorf("%v %d", l, code)
	}
}

// TestLinkRoundsUp has lengths around the multiples of Grain.
func TestLinkRoundsUp(t *testing.T) {
	for _, c := range []struct{ words, data, bss, flash, size int }{
		{0, 0, 0, 0, 0}, {1, 1, 0, 32, 32}, {7, 31, 0, 32, 32}, {8, 32, 0, 32, 32}, {9, 33, 0, 64, 64}, {16, 0, 32, 64, 32}, {17, 0, 33, 96, 64},
		{200, 512, 512, 800, 1024}, {199, 511, 512, 800, 1024}, {193, 480, 480, 800, 960}, {192, 16, 16, 768, 32}, {2, 16, 17, 32, 64}, {2, 1, 1, 32, 32}, {64, 0, 512, 256, 512},
	} {
		m := impl.Module{Name: "a", Text: make([]int, c.words), Data: make([]byte, c.data), Bss: c.bss}
		l, code := impl.Link([]impl.Module{m, bareModule()}, impl.Config{Words: 1})
		if code != 0 || l.Flash != c.flash || l.Ram != c.size || l.Places[0].Size != c.size || l.Places[1].Text != c.flash || l.Places[1].Data != 65536+c.size || l.Stack != 65536+c.size {
			t.Errorf("%v: %v %d", c, l, code)
		}
	}
	for words := 1; words <= 64; words++ {
		slot := rounded(4 * words)
		m := impl.Module{Name: "a", Banks: [][]int{make([]int, words), {1}}}
		l, code := impl.Link([]impl.Module{m}, impl.Config{Slots: 3, Words: words, Stack: 64})
		if code != 0 || !slices.Equal(l.Slots, []int{65600, 65600 + slot, 65600 + 2*slot}) || l.Ram != 64+3*slot || !slices.Equal(l.Places[0].Banks, []int{0, slot}) || l.Flash != slot+32 {
			t.Errorf("%d words: %v %d", words, l, code)
		}
	}
}

// TestLinkAsTold holds Link against the document's words for every valid configuration but for the depth, which does not matter.
func TestLinkAsTold(t *testing.T) {
	for i, mods := range programs() {
		before := cloneModules(mods)
		for _, c := range everyConfig(i * 20) {
			want, wantCode := linkAsTold(mods, c)
			got, code := impl.Link(mods, c)
			if code != wantCode || textOf(got) != textOf(want) {
				t.Fatalf("program %d, %v: %v %d", i, c, got, code)
			}
		}
		if !sameModules(mods, before) {
			t.Errorf("program %d is changed", i)
		}
	}
}

// wantNoOverlap wants that pieces lie one behind the other, each from a grain on, and end in all where it is told.
func wantNoOverlap(t *testing.T, what string, base int, all int, pieces [][2]int) {
	t.Helper()
	slices.SortFunc(pieces, func(a [2]int, b [2]int) int { return slices.Compare(a[:], b[:]) })
	at := base
	for _, p := range pieces {
		if p[0] < at || p[0]%32 != 0 {
			t.Fatalf("%s: %v overlaps or is at no grain", what, pieces)
		}
		at = p[0] + p[1]
	}
	if at > base+all {
		t.Fatalf("%s: %v end behind %d", what, pieces, base+all)
	}
}

// TestPlacesDoNotOverlap is promise 7 for programs of all kinds.
func TestPlacesDoNotOverlap(t *testing.T) {
	d := new(dice)
	linked := 0
	for range 3000 {
		names := []string{"a", "b", "c", "d"}[:1+d.below(4)]
		var mods []impl.Module
		for _, name := range names {
			mods = append(mods, d.module(name, names...))
		}
		c := impl.Config{Slots: d.below(5), Words: 1 + d.below(64), Stack: 32 * d.below(33), Depth: d.below(101)}
		l, code := impl.Link(mods, c)
		if want := programCode(mods, c); code != want || code != 0 && !isNothing(l) {
			t.Fatalf("%v %v: %d instead of %d", mods, c, code, want)
		}
		if code != 0 {
			continue
		}
		linked++
		var flash, ram [][2]int
		for i, p := range l.Places {
			flash = append(flash, [2]int{p.Text, 4 * len(mods[i].Text)})
			for k, at := range p.Banks {
				flash = append(flash, [2]int{at, 4 * len(mods[i].Banks[k])})
			}
			ram = append(ram, [2]int{p.Data, p.Size})
			if p.Size < len(mods[i].Data)+mods[i].Bss {
				t.Fatalf("%v: the data has no room", l)
			}
		}
		ram = append(ram, [2]int{l.Stack, c.Stack})
		for _, at := range l.Slots {
			ram = append(ram, [2]int{at, 4 * c.Words})
		}
		wantNoOverlap(t, "flash", 0, l.Flash, flash)
		wantNoOverlap(t, "ram", 65536, l.Ram, ram)
		wantImage(t, mods, l)
	}
	if linked < 300 {
		t.Errorf("only %d programs were linked", linked)
	}
}

// programCode gives Link's code for valid modules of different names.
func programCode(mods []impl.Module, c impl.Config) int {
	for _, m := range mods {
		for _, name := range m.Imports {
			if _, ok := resolveAsTold(mods, name); !ok {
				return 5
			}
		}
	}
	_, code := linkAsTold(mods, c)
	return code
}

// program is what Link is given.
type program struct {
	mods []impl.Module
	c    impl.Config
}

// badProgram is a change by which a program has one code of Link.
type badProgram struct {
	what   string
	code   int
	change func(p *program)
}

func badPrograms() []badProgram {
	all := []badProgram{}
	add := func(code int, what string, change func(p *program)) {
		all = append(all, badProgram{what, code, change})
	}
	add(1, "slots", func(p *program) { p.c.Slots = 5 })
	add(1, "less slots", func(p *program) { p.c.Slots = -1 })
	add(1, "words", func(p *program) { p.c.Words = 65 })
	add(1, "no words", func(p *program) { p.c.Words = 0 })
	add(1, "stack", func(p *program) { p.c.Stack = 1056 })
	add(1, "stack of a half grain", func(p *program) { p.c.Stack = 16 })
	add(1, "depth", func(p *program) { p.c.Depth = 101 })
	add(1, "less depth", func(p *program) { p.c.Depth = -1 })
	add(2, "five", func(p *program) {
		for _, name := range []string{"x", "y", "z"} {
			p.mods = append(p.mods, impl.Module{Name: name})
		}
	})
	add(3, "name", func(p *program) { p.mods = append(p.mods, impl.Module{Name: "x1"}) })
	add(3, "no name", func(p *program) { p.mods = append([]impl.Module{{}}, p.mods...) })
	add(3, "text", func(p *program) { p.mods[1].Text = make([]int, 201) })
	add(3, "bss", func(p *program) { p.mods[0].Bss = -1 })
	add(3, "reloc", func(p *program) { p.mods[1].Relocs = []int{1} })
	add(3, "import", func(p *program) { p.mods[1].Imports = []string{"x"} })
	add(3, "export", func(p *program) { p.mods[1].Exports[0].At = 1 })
	add(4, "same name", func(p *program) { p.mods = append(p.mods, impl.Module{Name: "main"}) })
	add(4, "same module", func(p *program) { p.mods = append(p.mods, p.mods[1]) })
	add(5, "no module", func(p *program) { p.mods[0].Imports = []string{"lib.g", "no.g"} })
	add(5, "no export", func(p *program) { p.mods[0].Imports = []string{"lib.no"} })
	add(5, "the other's export", func(p *program) { p.mods[0].Imports[2] = "lib.m" })
	add(6, "bank", func(p *program) { p.c.Words = 8 })
	add(6, "one word", func(p *program) { p.c.Words = 1 })
	add(6, "longer bank", func(p *program) { p.mods[1].Banks = append(p.mods[1].Banks, make([]int, 10)) })
	return all
}

func someProgram() *program {
	return &program{[]impl.Module{mainModule(), libModule()}, impl.Config{Slots: 1, Words: 9, Stack: 32, Depth: 2}}
}

func wantLinkCode(t *testing.T, mods []impl.Module, c impl.Config, what string, want int) {
	t.Helper()
	before := cloneModules(mods)
	l, code := impl.Link(mods, c)
	if code != want {
		t.Errorf("%s: %d instead of %d", what, code, want)
	}
	if code != 0 && !isNothing(l) {
		t.Errorf("%s: code %d and %v", what, code, l)
	}
	if !sameModules(mods, before) {
		t.Errorf("%s: the modules are changed", what)
	}
}

func TestLinkOfEveryCode(t *testing.T) {
	p := someProgram()
	wantLinkCode(t, p.mods, p.c, "all is well", 0)
	for _, bad := range badPrograms() {
		p := someProgram()
		bad.change(p)
		wantLinkCode(t, p.mods, p.c, bad.what, bad.code)
	}
	wantLinkCode(t, nil, p.c, "none", 2)
	wantLinkCode(t, []impl.Module{}, p.c, "none", 2)
	wantLinkCode(t, nil, impl.Config{}, "none, no configuration", 1)
	wantLinkCode(t, make([]impl.Module, 5), p.c, "five that are not valid", 2)
	wantLinkCode(t, make([]impl.Module, 2), p.c, "two that are not valid", 3)
}

// TestLinkWithoutSlots has banks of any length: they are executed in flash.
func TestLinkWithoutSlots(t *testing.T) {
	for words := 1; words <= 64; words++ {
		wantLinkCode(t, []impl.Module{fullModule("full")}, impl.Config{Words: words}, "no slots", 0)
		want := 6
		if words == 64 {
			want = 0
		}
		wantLinkCode(t, []impl.Module{bareModule(), fullModule("full")}, impl.Config{Slots: 1, Words: words}, "a slot", want)
	}
}

// TestLinkNamesTheFirstCode makes two changes that have different codes.
func TestLinkNamesTheFirstCode(t *testing.T) {
	for _, first := range badPrograms() {
		for _, second := range badPrograms() {
			if first.code < second.code {
				p := someProgram()
				second.change(p)
				first.change(p)
				if first.code == 2 && len(p.mods) < 5 {
					t.Fatalf("%s is undone by %s", first.what, second.what)
				}
				wantLinkCode(t, p.mods, p.c, first.what+" and "+second.what, first.code)
			}
		}
	}
}

// TestLinkOfTheGreatest tells why no test has codes 7 and 8: the greatest valid modules, with the greatest
// configuration, need less than half of MaxFlash and of MaxRam.
func TestLinkOfTheGreatest(t *testing.T) {
	mods := []impl.Module{fullModule("a"), fullModule("b"), fullModule("c"), fullModule("d")}
	l, code := impl.Link(mods, impl.Config{Slots: 4, Words: 64, Stack: 1024, Depth: 100})
	if code != 0 || l.Flash != 7296 || l.Ram != 6144 || len(l.Targets[3]) != 16 || l.Targets[3][15] != (impl.Target{Mod: 3, Bank: -1, At: 48}) {
		t.Errorf("%d: %d %d", code, l.Flash, l.Ram)
	}
}

func TestLinkGivesNewMemory(t *testing.T) {
	for _, mods := range programs() {
		for _, c := range someConfigs() {
			l, _ := impl.Link(mods, c)
			wantNewMemory(t, l, mods)
			again, _ := impl.Link(mods, c)
			wantNewMemory(t, again, l)
		}
	}
}
