package tests

import (
	"math"
	"math/big"
	"slices"
	"testing"

	"loop.example/s01513/impl"
)

// imageAsTold puts byte by byte where the layout says.
func imageAsTold(mods []impl.Module, l impl.Layout) impl.Mem {
	m := impl.Mem{Flash: make([]byte, l.Flash), Ram: make([]byte, l.Ram)}
	put := func(b []byte, at int, v int) {
		for i := range 4 {
			b[at+i] = byte(v % 256)
			v /= 256
		}
	}
	for k, p := range l.Places {
		for i, v := range mods[k].Text {
			put(m.Flash, p.Text+4*i, v)
		}
		for n, bank := range mods[k].Banks {
			for i, v := range bank {
				put(m.Flash, p.Banks[n]+4*i, v)
			}
		}
		from := p.Data - 65536
		for i, v := range mods[k].Data {
			m.Ram[from+i] = v
		}
		for _, at := range mods[k].Relocs {
			sum := new(big.Int)
			for i := 3; i >= 0; i-- {
				sum.Mul(sum, big.NewInt(256))
				sum.Add(sum, big.NewInt(int64(mods[k].Data[at+i])))
			}
			put(m.Ram, from+at, modulo(sum.Add(sum, big.NewInt(int64(p.Data)))))
		}
	}
	return m
}

// wantImage wants the memory of a layout that Link gave.
func wantImage(t *testing.T, mods []impl.Module, l impl.Layout) {
	t.Helper()
	before, text := cloneModules(mods), textOf(l)
	got, ok := impl.Image(mods, l)
	if !ok || !sameMem(got, imageAsTold(mods, l)) {
		t.Fatalf("%v: %v", l, ok)
	}
	wantNewMemory(t, got, mods, l)
	if !sameModules(mods, before) || textOf(l) != text {
		t.Fatalf("%v: an argument is changed", l)
	}
}

// wantNoImage wants that there is no memory.
func wantNoImage(t *testing.T, mods []impl.Module, l impl.Layout, what string) {
	t.Helper()
	before, text := cloneModules(mods), textOf(l)
	if got, ok := impl.Image(mods, l); ok || !isNothing(got) {
		t.Fatalf("%s: %v is taken", what, l)
	}
	if !sameModules(mods, before) || textOf(l) != text {
		t.Fatalf("%s: an argument is changed", what)
	}
}

func TestImageInPlainBytes(t *testing.T) {
	mods := []impl.Module{mainModule(), bareModule(), libModule()}
	mods[2].Relocs = []int{28}
	l, _ := impl.Link(mods, impl.Config{Slots: 1, Words: 9, Stack: 32})
	m, ok := impl.Image(mods, l)
	if !ok || len(m.Flash) != 224 || len(m.Ram) != 32+64+32+64 || len(m.Out) != 0 {
		t.Fatalf("%v", ok)
	}
	flash := make([]byte, 224)
	copy(flash, []byte{255, 255, 255, 255})
	for i := range 9 {
		flash[32+4*i] = byte(31 + i)
		flash[96+4*i] = byte(1 + i)
	}
	for i := range 8 {
		flash[160+4*i] = byte(11 + i)
	}
	flash[192] = 21
	if !slices.Equal(m.Flash, flash) {
		t.Errorf("%v", m.Flash)
	}
	ram := make([]byte, 32+64+32+64)
	copy(ram, []byte{1, 2, 4, 4, 255, 255, 0, 0, 9, 8, 7, 6})
	for i := range 33 {
		ram[32+i] = byte(5 + 7*i)
	}
	copy(ram[60:], []byte{5 + 7*28 + 32, 5 + 7*29, 5 + 7*30 + 1, 5 + 7*31})
	if !slices.Equal(m.Ram, ram) {
		t.Errorf("%v", m.Ram)
	}
}

// TestImageOfRelocs has sums that wrap, that carry, and that end at the data's last byte.
func TestImageOfRelocs(t *testing.T) {
	for _, c := range []struct {
		from [4]byte
		want [4]byte
	}{
		{[4]byte{0, 0, 0, 0}, [4]byte{32, 0, 1, 0}}, {[4]byte{255, 255, 255, 255}, [4]byte{31, 0, 1, 0}}, {[4]byte{224, 255, 254, 255}, [4]byte{0, 0, 0, 0}}, {[4]byte{223, 255, 254, 255}, [4]byte{255, 255, 255, 255}},
		{[4]byte{255, 0, 0, 0}, [4]byte{31, 1, 1, 0}}, {[4]byte{240, 255, 255, 127}, [4]byte{16, 0, 1, 128}}, {[4]byte{0, 0, 255, 0}, [4]byte{32, 0, 0, 1}},
	} {
		m := impl.Module{Name: "rel", Data: append(slices.Concat(c.from[:], c.from[:], c.from[:]), 77), Relocs: []int{0, 8}}
		mods := []impl.Module{bssModule(), m, libModule()}
		l, _ := impl.Link(mods, impl.Config{Words: 1})
		got, ok := impl.Image(mods, l)
		want := append(slices.Concat(c.want[:], c.from[:], c.want[:]), 77, 0)
		if !ok || !slices.Equal(got.Ram[32:46], want) {
			t.Errorf("%v: %v", c.from, got.Ram[32:46])
		}
		m.Data, m.Relocs = m.Data[:4], []int{0}
		mods = []impl.Module{libModule(), m}
		mods[0].Data = mods[0].Data[:32]
		l, _ = impl.Link(mods, impl.Config{Words: 1})
		if got, ok = impl.Image(mods, l); !ok || !slices.Equal(got.Ram[32:36], c.want[:]) {
			t.Errorf("%v: %v", c.from, got.Ram[32:36])
		}
	}
}

// layoutsOf gives all layouts of modules, by their texts.
func layoutsOf(mods []impl.Module) map[string]bool {
	all := map[string]bool{}
	for _, c := range everyConfig(0) {
		if l, code := linkAsTold(mods, c); code == 0 {
			all[textOf(l)] = true
		}
	}
	return all
}

// wantImageIf wants a memory just when the layout is one of those of the modules.
func wantImageIf(t *testing.T, mods []impl.Module, l impl.Layout, all map[string]bool, what string) {
	t.Helper()
	if all[textOf(l)] {
		wantImage(t, mods, l)
	} else {
		wantNoImage(t, mods, l, what)
	}
}

// TestImageOfEveryLayout wants the memory of what each valid configuration gives.
func TestImageOfEveryLayout(t *testing.T) {
	for i, mods := range programs()[:4] {
		want := impl.Mem{}
		for _, c := range everyConfig(0) {
			l, code := linkAsTold(mods, c)
			if code != 0 {
				continue
			}
			got, ok := impl.Image(mods, l)
			if c.Slots+c.Stack == 0 {
				want = imageAsTold(mods, l)
			}
			if !ok || len(got.Ram) != l.Ram || string(got.Flash) != string(want.Flash) || string(got.Ram[:len(want.Ram)]) != string(want.Ram) || len(got.Out) != 0 {
				t.Fatalf("program %d, %v: %v", i, c, ok)
			}
			for _, v := range got.Ram[len(want.Ram):] {
				if v != 0 {
					t.Fatalf("program %d, %v: no zero in stack or slots", i, c)
				}
			}
		}
	}
	for _, mods := range programs()[4:] {
		for _, c := range someConfigs() {
			if l, code := linkAsTold(mods, c); code == 0 {
				wantImage(t, mods, l)
			}
		}
	}
}

func cloneLayout(l impl.Layout) impl.Layout {
	got := impl.Layout{Stack: l.Stack, Flash: l.Flash, Ram: l.Ram, Slots: slices.Clone(l.Slots)}
	for _, p := range l.Places {
		p.Banks = slices.Clone(p.Banks)
		got.Places = append(got.Places, p)
	}
	for _, ts := range l.Targets {
		got.Targets = append(got.Targets, slices.Clone(ts))
	}
	return got
}

// numbersOf gives all numbers of a layout, to be changed.
func numbersOf(l *impl.Layout) []*int {
	all := []*int{&l.Stack, &l.Flash, &l.Ram}
	for i := range l.Slots {
		all = append(all, &l.Slots[i])
	}
	for i := range l.Places {
		p := &l.Places[i]
		all = append(all, &p.Text, &p.Data, &p.Size)
		for k := range p.Banks {
			all = append(all, &p.Banks[k])
		}
	}
	for _, ts := range l.Targets {
		for k := range ts {
			all = append(all, &ts[k].Mod, &ts[k].Bank, &ts[k].At)
		}
	}
	return all
}

// eachLayout goes through layouts of programs, with all layouts that the same modules have.
func eachLayout(do func(mods []impl.Module, all map[string]bool, l impl.Layout)) {
	for _, mods := range programs()[:4] {
		all := layoutsOf(mods)
		for _, c := range someConfigs() {
			if l, code := linkAsTold(mods, c); code == 0 {
				do(mods, all, l)
			}
		}
	}
}

// TestImageOfOtherNumbers changes one number and two; where the whole is another layout of the modules, it is taken.
func TestImageOfOtherNumbers(t *testing.T) {
	taken := 0
	eachLayout(func(mods []impl.Module, all map[string]bool, l impl.Layout) {
		for i := range numbersOf(&l) {
			for _, by := range []int{1, -1, 4, -4, 16, 32, -32, 64, -64, 128, 256, 1024, -1024, 65536, math.MaxInt, math.MinInt} {
				x := cloneLayout(l)
				*numbersOf(&x)[i] += by
				wantImageIf(t, mods, x, all, "a number")
				if all[textOf(x)] {
					taken++
				}
			}
			for k := range i {
				for _, by := range [][2]int{{32, 32}, {32, -32}, {-32, 32}, {1, 1}, {64, 32}, {math.MinInt, math.MinInt}} {
					x := cloneLayout(l)
					*numbersOf(&x)[i] += by[0]
					*numbersOf(&x)[k] += by[1]
					wantImageIf(t, mods, x, all, "two numbers")
				}
			}
		}
	})
	if taken == 0 {
		t.Errorf("no change gives a layout of another configuration")
	}
}

// TestImageOfOtherLists has lists with elements less or more, or in another order.
func TestImageOfOtherLists(t *testing.T) {
	changes := []func(x *impl.Layout){
		func(x *impl.Layout) { x.Places = nil },
		func(x *impl.Layout) { x.Places = x.Places[1:] },
		func(x *impl.Layout) { x.Places = x.Places[:len(x.Places)-1] },
		func(x *impl.Layout) { x.Places = append(x.Places, impl.Place{}) },
		func(x *impl.Layout) { x.Places[0].Banks = append(x.Places[0].Banks, x.Flash) },
		func(x *impl.Layout) { x.Places[0].Banks = x.Places[0].Banks[:max(0, len(x.Places[0].Banks)-1)] },
		func(x *impl.Layout) { x.Slots = append(x.Slots, 65536+x.Ram) },
		func(x *impl.Layout) { x.Slots = append(x.Slots, 65536+x.Ram); x.Ram += 32 },
		func(x *impl.Layout) { x.Slots = append(x.Slots, 65536+x.Ram); x.Ram += 64 },
		func(x *impl.Layout) { x.Slots = append(x.Slots, 65536+x.Ram); x.Ram += 256 },
		func(x *impl.Layout) { x.Slots = append(x.Slots, x.Stack) },
		func(x *impl.Layout) { x.Slots = nil },
		func(x *impl.Layout) { x.Slots = x.Slots[min(1, len(x.Slots)):] },
		func(x *impl.Layout) { x.Slots = x.Slots[:max(0, len(x.Slots)-1)] },
		func(x *impl.Layout) { x.Slots = make([]int, 1000) },
		func(x *impl.Layout) { slices.Reverse(x.Slots) },
		func(x *impl.Layout) { x.Targets = nil },
		func(x *impl.Layout) { x.Targets = x.Targets[1:] },
		func(x *impl.Layout) { x.Targets = append(x.Targets, nil) },
		func(x *impl.Layout) { x.Targets[0] = append(x.Targets[0], impl.Target{}) },
		func(x *impl.Layout) { x.Targets[0] = x.Targets[0][:max(0, len(x.Targets[0])-1)] },
		func(x *impl.Layout) { slices.Reverse(x.Places) },
		func(x *impl.Layout) { slices.Reverse(x.Targets) },
	}
	eachLayout(func(mods []impl.Module, all map[string]bool, l impl.Layout) {
		for _, change := range changes {
			x := cloneLayout(l)
			change(&x)
			wantImageIf(t, mods, x, all, "a list")
		}
	})
}

// TestImageOfLayoutsThatNoConfigurationGives has layouts that are laid out as told, with what is not valid.
func TestImageOfLayoutsThatNoConfigurationGives(t *testing.T) {
	for _, mods := range programs()[:4] {
		all := layoutsOf(mods)
		for slots := 0; slots <= 6; slots++ {
			for _, words := range []int{0, 1, 8, 9, 16, 56, 57, 64, 65, 72, 128} {
				for _, stack := range []int{-64, -32, 0, 1, 16, 32, 48, 992, 1024, 1025, 1056, 2048} {
					l := layoutAsTold(mods, impl.Config{Slots: slots, Words: words, Stack: stack})
					wantImageIf(t, mods, l, all, "not valid")
				}
			}
		}
	}
	mods := []impl.Module{mainModule(), libModule()}
	wantNoImage(t, mods, layoutAsTold(mods, impl.Config{Slots: 1, Words: 8, Stack: 32}), "a slot too short for a bank")
	wantImage(t, mods, layoutAsTold(mods, impl.Config{Slots: 1, Words: 10, Stack: 32}))
	wantNoImage(t, mods, layoutAsTold(mods, impl.Config{Slots: 5, Words: 64}), "five slots")
	wantNoImage(t, mods, layoutAsTold(mods, impl.Config{Slots: 1, Words: 65}), "a slot too long")
	wantNoImage(t, mods, layoutAsTold(mods, impl.Config{Slots: 1, Words: 64, Stack: 1056}), "a stack too long")
	wantNoImage(t, mods, impl.Layout{}, "nothing")
}

// TestImageOfOtherModules has layouts of which the modules are others.
func TestImageOfOtherModules(t *testing.T) {
	mods := []impl.Module{mainModule(), libModule()}
	l, _ := impl.Link(mods, impl.Config{Slots: 2, Words: 9, Stack: 32})
	wantImage(t, mods, l)
	for _, bad := range badPrograms() {
		if bad.code > 1 && bad.code < 6 {
			p := someProgram()
			bad.change(p)
			wantNoImage(t, p.mods, l, bad.what)
		}
	}
	wantNoImage(t, nil, l, "no modules")
	wantNoImage(t, nil, impl.Layout{Stack: 65536}, "no modules and nothing laid out")
	wantNoImage(t, mods[:1], l, "one module")
	wantNoImage(t, []impl.Module{mods[1], mods[0]}, l, "the other order")
	other := cloneModules(mods)
	other[0].Bss = 21
	wantNoImage(t, other, l, "one byte more")
	other[0].Bss = 0
	wantImage(t, other, l)
	other = cloneModules(mods)
	other[0].Imports[0] = "lib.f"
	wantNoImage(t, other, l, "another import")
	five := []impl.Module{{Name: "a"}, {Name: "b"}, {Name: "c"}, {Name: "d"}, {Name: "e"}}
	wantNoImage(t, five, layoutAsTold(five, impl.Config{Words: 1}), "five modules")
	wantImage(t, five[:4], layoutAsTold(five[:4], impl.Config{Words: 1}))
	twins := []impl.Module{{Name: "a"}, {Name: "a"}}
	wantNoImage(t, twins, layoutAsTold(twins, impl.Config{Words: 1}), "the same name")
	bad := []impl.Module{{Name: "a", Text: make([]int, 201)}}
	wantNoImage(t, bad, layoutAsTold(bad, impl.Config{Words: 1}), "a text too long")
}

// TestImageReadsAsMemory reads the words of a program where its places are.
func TestImageReadsAsMemory(t *testing.T) {
	mods := programs()[5]
	l, code := impl.Link(mods, impl.Config{Slots: 4, Words: 64, Stack: 1024})
	if code != 0 {
		t.Fatal(code)
	}
	m, ok := impl.Image(mods, l)
	if !ok || !impl.MemOk(m) {
		t.Fatal(ok)
	}
	for i, p := range l.Places {
		for k, v := range mods[i].Text {
			if got, fault := impl.Read(m, p.Text+4*k, 4); got != v || fault != 0 {
				t.Fatalf("module %d, word %d: %d %d", i, k, got, fault)
			}
		}
		for n, bank := range mods[i].Banks {
			for k, v := range bank {
				if got, fault := impl.Read(m, p.Banks[n]+4*k, 4); got != v || fault != 0 {
					t.Fatalf("module %d, bank %d, word %d: %d %d", i, n, k, got, fault)
				}
			}
		}
	}
}
