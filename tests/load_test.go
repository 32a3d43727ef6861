package tests

import (
	"fmt"
	"math"
	"slices"
	"testing"

	"loop.example/s01513/impl"
)

// configAsTold says whether a configuration is valid.
func configAsTold(c impl.Config) bool {
	return c.Slots >= 0 && c.Slots <= 4 && c.Words >= 1 && c.Words <= 64 && c.Stack >= 0 && c.Stack <= 1024 && c.Stack%32 == 0 && c.Depth >= 0 && c.Depth <= 100
}

// nameTwice says whether two modules have the same name.
func nameTwice(mods []impl.Module) bool {
	for i, m := range mods {
		for _, other := range mods[:i] {
			if other.Name == m.Name {
				return true
			}
		}
	}
	return false
}

// loadAsTold does Load in the document's words.
func loadAsTold(images [][]byte, c impl.Config) (impl.Machine, int, int) {
	if !configAsTold(c) {
		return impl.Machine{}, 1, 0
	}
	if len(images) == 0 || len(images) > 4 {
		return impl.Machine{}, 2, 0
	}
	var mods []impl.Module
	for i, b := range images {
		m, code := parseAsTold(b)
		if code != 0 {
			return impl.Machine{}, 10 + code, i
		}
		mods = append(mods, m)
	}
	if nameTwice(mods) {
		return impl.Machine{}, 44, 0
	}
	if code := programCode(mods, c); code != 0 {
		return impl.Machine{}, 40 + code, 0
	}
	if !fitsAsTold(mods, layoutAsTold(mods, c)) {
		return impl.Machine{}, 60, 0
	}
	m := machineOf(mods, c)
	m.Core.Regs = make([]int, 8)
	return m, 0, 0
}

// imagesOf gives the bytes of modules, valid or not.
func imagesOf(mods []impl.Module) [][]byte {
	var images [][]byte
	for _, m := range mods {
		images = append(images, bytesAsTold(m))
	}
	return images
}

func cloneImages(images [][]byte) [][]byte {
	var got [][]byte
	for _, b := range images {
		got = append(got, slices.Clone(b))
	}
	return got
}

// wantLoad wants a machine as told; promise 13: with code 0 it is valid, with another there is nothing.
func wantLoad(t *testing.T, images [][]byte, c impl.Config, what string) (impl.Machine, int) {
	t.Helper()
	before := cloneImages(images)
	want, wantCode, wantAt := loadAsTold(before, c)
	got, code, at := impl.Load(images, c)
	if code != wantCode || at != wantAt {
		t.Fatalf("%s: %d %d, not %d %d", what, code, at, wantCode, wantAt)
	}
	if !sameMachine(got, want) {
		t.Fatalf("%s: %s, not %s", what, stateOf(got), stateOf(want))
	}
	if code != 0 && !isNothing(got) {
		t.Fatalf("%s: something beside code %d", what, code)
	}
	if code == 0 && (!impl.MachineOk(got) || !validAsTold(got)) {
		t.Fatalf("%s: the machine is not valid: %s", what, stateOf(got))
	}
	if !slices.EqualFunc(images, before, slices.Equal[[]byte]) {
		t.Fatalf("%s: the images are changed", what)
	}
	wantNewMemory(t, got, images)
	return got, code
}

// wantLoadCode wants a code and a position that are written out.
func wantLoadCode(t *testing.T, images [][]byte, c impl.Config, what string, code int, at int) {
	t.Helper()
	if _, gotCode, gotAt := impl.Load(images, c); gotCode != code || gotAt != at {
		t.Errorf("%s: %d %d, not %d %d", what, gotCode, gotAt, code, at)
	}
	wantLoad(t, images, c, what)
}

// badImage is a change by which bytes have a code of ParseModule.
type badImage struct {
	what   string
	code   int
	change func(b []byte) []byte
}

func badImages() []badImage {
	all := []badImage{
		{"no bytes", 1, func(b []byte) []byte { return nil }},
		{"one byte", 1, func(b []byte) []byte { return b[:1] }},
		{"another mark", 1, func(b []byte) []byte { return append([]byte("XN"), b[2:]...) }},
		{"the mark alone", 2, func(b []byte) []byte { return b[:2] }},
		{"a byte less", 2, func(b []byte) []byte { return b[:len(b)-1] }},
		{"a byte more", 3, func(b []byte) []byte { return append(b, 0) }},
		{"20001 bytes", 3, func(b []byte) []byte { return make([]byte, 20001) }},
	}
	for code, m := range []impl.Module{
		{}, {Name: "a", Text: make([]int, 201)}, {Name: "a", Bss: 513}, {Name: "a", Relocs: []int{0}}, {Name: "a", Imports: []string{"a"}}, {Name: "a", Exports: []impl.Export{{Name: "b", Bank: -1}}},
	} {
		all = append(all, badImage{fmt.Sprint("a module of code ", code+1), 11 + code, func(b []byte) []byte { return bytesAsTold(m) }})
	}
	return all
}

// badConfigs are not valid.
func badConfigs() []impl.Config {
	good := impl.Config{Slots: 1, Words: 9, Stack: 32, Depth: 2}
	all := []impl.Config{{}}
	for _, v := range []int{-1, 101, 1056, math.MinInt, math.MaxInt} {
		slots, words, stack, depth := good, good, good, good
		slots.Slots, words.Words, stack.Stack, depth.Depth = v, v, v, v
		all = append(all, slots, words, stack, depth)
	}
	return append(all, impl.Config{Slots: 5, Words: 9}, impl.Config{Words: 65}, impl.Config{Words: 9, Stack: 31})
}

func TestLoadInPlainNumbers(t *testing.T) {
	app := impl.Module{Name: "app", Text: []int{258}, Data: []byte{1, 0, 0, 0, 9}, Bss: 1, Relocs: []int{0}, Imports: []string{"lib.f"}}
	lib := impl.Module{Name: "lib", Banks: [][]int{{3, 4294967295}}, Data: []byte{255, 255, 255, 255}, Relocs: []int{0}, Exports: []impl.Export{{Name: "f", Bank: 0, At: 1}}}
	c := impl.Config{Slots: 2, Words: 2, Stack: 32, Depth: 7}
	m, code, at := impl.Load([][]byte{impl.EncodeModule(app), impl.EncodeModule(lib)}, c)
	if code != 0 || at != 0 || !sameModules(m.Mods, []impl.Module{app, lib}) || m.Config != c {
		t.Fatalf("%d %d %s", code, at, stateOf(m))
	}
	if m.Core.Pc != 0 || !slices.Equal(m.Core.Regs, make([]int, 8)) || m.Mod != 0 || m.Bank != -1 || !slices.Equal(m.Slots, make([]impl.Slot, 2)) || len(m.Shadow) != 0 || m.Turn != 0 {
		t.Errorf("%s", stateOf(m))
	}
	flash, ram := make([]byte, 64), make([]byte, 32+32+32+64)
	copy(flash, []byte{2, 1})
	copy(flash[32:], []byte{3, 0, 0, 0, 255, 255, 255, 255})
	copy(ram, []byte{1, 0, 1, 0, 9})
	copy(ram[32:], []byte{31, 0, 1, 0})
	if !sameMem(m.Mem, impl.Mem{Flash: flash, Ram: ram}) {
		t.Errorf("%v", m.Mem)
	}
	if !impl.MachineOk(m) {
		t.Errorf("not valid")
	}
}

// TestLoadOfPrograms has one to four modules, the least and the greatest, with slots and without.
func TestLoadOfPrograms(t *testing.T) {
	loaded := 0
	for i, mods := range append(programs(), calcProgram(), fatProgram(16), tickProgram(1, 2)) {
		for _, c := range append(someConfigs(), calcConfig(0), calcConfig(4)) {
			if _, code := wantLoad(t, imagesOf(mods), c, fmt.Sprint("program ", i, " ", c)); code == 0 {
				loaded++
			}
		}
	}
	if loaded < 40 {
		t.Errorf("%d programs are loaded", loaded)
	}
}

func TestLoadOfEveryCode(t *testing.T) {
	good := someProgram()
	images := imagesOf(good.mods)
	wantLoadCode(t, images, good.c, "all is well", 0, 0)
	for _, c := range badConfigs() {
		wantLoadCode(t, images, c, fmt.Sprint(c), 1, 0)
	}
	wantLoadCode(t, nil, good.c, "none", 2, 0)
	wantLoadCode(t, [][]byte{}, good.c, "none", 2, 0)
	bare := func(name string) []byte { return bytesAsTold(impl.Module{Name: name}) }
	wantLoadCode(t, append(imagesOf(good.mods), bare("x"), bare("y")), good.c, "four", 0, 0)
	wantLoadCode(t, append(imagesOf(good.mods), bare("x"), bare("y"), bare("z")), good.c, "five", 2, 0)
	for _, bad := range badImages() {
		for at := range 4 {
			four := append(imagesOf(good.mods), bare("x"), bare("y"))
			four[at] = bad.change(four[at])
			wantLoadCode(t, four, good.c, bad.what, 10+bad.code, at)
		}
	}
	for _, bad := range badPrograms() {
		if bad.code >= 4 {
			p := someProgram()
			bad.change(p)
			wantLoadCode(t, imagesOf(p.mods), p.c, bad.what, 40+bad.code, 0)
		}
	}
	for slots := range 5 {
		code := 0
		if slots == 4 {
			code = 60
		}
		wantLoadCode(t, imagesOf(fatProgram(16)), impl.Config{Slots: slots, Words: 16, Stack: 512}, "a bank that fits in all slots but the last", code, 0)
	}
}

// TestLoadNamesTheFirstCode has two things wrong at once.
func TestLoadNamesTheFirstCode(t *testing.T) {
	c := someProgram().c
	images := imagesOf(someProgram().mods)
	for _, first := range badConfigs() {
		wantLoadCode(t, nil, first, "a configuration and no images", 1, 0)
		wantLoadCode(t, make([][]byte, 5), first, "a configuration and five images", 1, 0)
		wantLoadCode(t, [][]byte{images[0], nil}, first, "a configuration and an image", 1, 0)
		wantLoadCode(t, [][]byte{images[1], images[1]}, first, "a configuration and the same name", 1, 0)
		wantLoadCode(t, imagesOf(fatProgram(16)), first, "a configuration and what does not fit", 1, 0)
	}
	wantLoadCode(t, make([][]byte, 5), c, "five images that are none", 2, 0)
	wantLoadCode(t, slices.Repeat(images[:1], 5), c, "five times the same", 2, 0)
	for _, first := range badImages() {
		one := func() []byte { return first.change(imagesOf(someProgram().mods)[0]) }
		for _, second := range badImages() {
			two := second.change(imagesOf(someProgram().mods)[1])
			wantLoadCode(t, [][]byte{one(), two}, c, first.what+", then "+second.what, 10+first.code, 0)
			wantLoadCode(t, [][]byte{images[1], one(), two}, c, "one, then "+first.what+", then "+second.what, 10+first.code, 1)
		}
		wantLoadCode(t, [][]byte{images[1], images[1], one()}, c, "the same name, then "+first.what, 10+first.code, 2)
		wantLoadCode(t, [][]byte{images[0], one()}, c, "an import that is not there, then "+first.what, 10+first.code, 1)
		small := impl.Config{Slots: 1, Words: 1}
		wantLoadCode(t, [][]byte{images[1], one()}, small, "a bank that is too long, then "+first.what, 10+first.code, 1)
		fat := imagesOf(fatProgram(16))
		wantLoadCode(t, [][]byte{fat[0], fat[1], one()}, impl.Config{Slots: 4, Words: 16, Stack: 512}, "what does not fit, then "+first.what, 10+first.code, 2)
	}
}

// TestLoadNamesLinkAheadOfFits has what does not fit together with each code of Link that modules can have.
func TestLoadNamesLinkAheadOfFits(t *testing.T) {
	c := impl.Config{Slots: 4, Words: 16, Stack: 512}
	for _, bad := range []struct {
		what   string
		code   int
		change func(mods []impl.Module) []impl.Module
	}{
		{"nothing else", 60, func(mods []impl.Module) []impl.Module { return mods }},
		{"the same name", 44, func(mods []impl.Module) []impl.Module { return append(mods, impl.Module{Name: "small"}) }},
		{"an import", 45, func(mods []impl.Module) []impl.Module {
			return append(mods, impl.Module{Name: "x", Imports: []string{"fat.f"}})
		}},
		{"a bank", 46, func(mods []impl.Module) []impl.Module {
			return append(mods, impl.Module{Name: "x", Banks: [][]int{make([]int, 17)}})
		}},
		{"a name, an import and a bank", 44, func(mods []impl.Module) []impl.Module {
			return append(mods, impl.Module{Name: "fat", Banks: [][]int{make([]int, 17)}, Imports: []string{"fat.f"}})
		}},
		{"an import and a bank", 45, func(mods []impl.Module) []impl.Module {
			return append(mods, impl.Module{Name: "x", Banks: [][]int{make([]int, 17)}, Imports: []string{"fat.f"}})
		}},
	} {
		wantLoadCode(t, imagesOf(bad.change(fatProgram(16))), c, bad.what, bad.code, 0)
	}
}

// TestLoadOfChangedBytes puts many bytes in every place of two images, and takes every byte out.
func TestLoadOfChangedBytes(t *testing.T) {
	p := someProgram()
	images := imagesOf(p.mods)
	for k, b := range images {
		for i := range b {
			for _, v := range []byte{0, 1, 2, 3, 'l', 'm', 128, 255} {
				changed := cloneImages(images)
				changed[k][i] = v
				wantLoad(t, changed, p.c, fmt.Sprint("image ", k, ", byte ", i, ": ", v))
			}
			changed := cloneImages(images)
			changed[k] = slices.Delete(changed[k], i, i+1)
			wantLoad(t, changed, p.c, fmt.Sprint("image ", k, " without byte ", i))
			changed[k] = b[:i:i]
			wantLoad(t, changed, p.c, fmt.Sprint("image ", k, " up to byte ", i))
		}
	}
}

// TestLoadOfAnyBytes is promise 13 for programs of all kinds, of which some bytes are others.
func TestLoadOfAnyBytes(t *testing.T) {
	d := new(dice)
	codes := map[int]int{}
	for range 6000 {
		names := []string{"a", "b", "c", "d", "e"}[:1+d.below(5)]
		var mods []impl.Module
		for _, name := range names {
			m := d.module(name, names...)
			m.Bss = d.below(513)
			mods = append(mods, m)
		}
		if d.below(12) == 0 {
			mods[0].Name = "b"
		}
		images := imagesOf(mods)
		for range d.below(6) / 3 {
			b := images[d.below(len(images))]
			b[d.below(len(b))] = byte(d.below(6))
		}
		c := impl.Config{Slots: d.below(5), Words: 16 - d.below(12)*d.below(2), Stack: 32 * d.below(33), Depth: d.below(104)}
		_, code := wantLoad(t, images, c, fmt.Sprint(mods, c))
		codes[code]++
	}
	for _, code := range []int{0, 1, 2, 11, 12, 13, 21, 23, 24, 25, 26, 44, 45, 46, 60} {
		if codes[code] == 0 {
			t.Errorf("no program with code %d: %v", code, codes)
		}
	}
}

// TestLoadOfImagesThatShareBytes has images that lie in the same memory, one of them twice in its parts.
func TestLoadOfImagesThatShareBytes(t *testing.T) {
	p := someProgram()
	images := imagesOf(p.mods)
	all := slices.Concat(images[0], images[1], images[0])
	n, k := len(images[0]), len(images[1])
	m, code := wantLoad(t, [][]byte{all[:n], all[n : n+k]}, p.c, "one behind the other")
	again, _ := wantLoad(t, [][]byte{all[:n], all[n : n+k]}, p.c, "once more")
	wantNewMemory(t, again, m)
	for i := range all {
		all[i] = 255
	}
	if code != 0 || !sameModules(m.Mods, p.mods) || !impl.MachineOk(m) {
		t.Errorf("%d: the machine has changed with its images", code)
	}
	wantLoadCode(t, [][]byte{images[0], images[0]}, p.c, "the same bytes twice", 44, 0)
}
