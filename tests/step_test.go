package tests

import (
	"math"
	"math/big"
	"slices"
	"testing"

	"loop.example/s01513/impl"
)

const wordEnd = 4294967296

// told is what a step is to answer.
type told struct {
	core impl.Core
	mem  impl.Mem
	did  int
	n    int
}

// ins gives the word of an instruction.
func ins(op int, d int, a int, imm int) int {
	return wordAsTold(impl.Ins{Op: op, D: d, A: a, Imm: imm}, 0)
}

// coreAt gives a core with the first registers as listed and other numbers in the rest.
func coreAt(pc int, regs ...int) impl.Core {
	all := append([]int{}, regs...)
	for i := len(all); i < 8; i++ {
		all = append(all, 1000003*i+5)
	}
	return impl.Core{Pc: pc, Regs: all}
}

func cloneCore(c impl.Core) impl.Core {
	return impl.Core{Pc: c.Pc, Regs: append([]int{}, c.Regs...)}
}

func sameCore(a impl.Core, b impl.Core) bool {
	return a.Pc == b.Pc && slices.Equal(a.Regs, b.Regs)
}

// putWord lays a word into Flash or Ram, where the address is in one of them.
func putWord(m impl.Mem, at int, word int) impl.Mem {
	got := cloneMem(m)
	for i := range 4 {
		if k := at + i; k >= 0 && k < len(got.Flash) {
			got.Flash[k] = byte(word >> (8 * i))
		} else if k -= impl.RamBase; k >= 0 && k < len(got.Ram) {
			got.Ram[k] = byte(word >> (8 * i))
		}
	}
	return got
}

// smallMem has some bytes of each kind.
func smallMem() impl.Mem {
	return impl.Mem{Flash: numbered(64, 17), Ram: numbered(64, 130), Out: numbered(3, 5)}
}

// openRegions allow everything in the small memory, at Port, and behind the ends of all three.
func openRegions() []impl.Region {
	return []impl.Region{
		{Log: 7, Read: true, Write: true, Exec: true},
		{Base: impl.RamBase, Log: 7, Read: true, Write: true, Exec: true},
		{Base: impl.Port, Log: 5, Read: true, Write: true, Exec: true},
	}
}

// modulo brings a number of any size to a word.
func modulo(v *big.Int) int {
	return int(new(big.Int).Mod(v, big.NewInt(wordEnd)).Int64())
}

func widenedAsTold(imm int) int {
	if imm >= 32768 {
		return imm - 65536
	}
	return imm
}

// bitByBit joins two words, one bit after the other.
func bitByBit(d int, a int, one func(x int, y int) bool) int {
	got, place := 0, 1
	for range 32 {
		if one(d%2, a%2) {
			got += place
		}
		d, a, place = d/2, a/2, place*2
	}
	return got
}

// movedAsTold moves a word one place after the other.
func movedAsTold(d int, times int, left bool) int {
	for range times % 32 {
		if left {
			d = d * 2 % wordEnd
		} else {
			d /= 2
		}
	}
	return d
}

// valueAsTold gives what D becomes, for the Ops that do no more than that.
func valueAsTold(in impl.Ins, d int, a int) (int, bool) {
	x, y := big.NewInt(int64(d)), big.NewInt(int64(a))
	switch in.Op {
	case impl.OpSet:
		return in.Imm, true
	case impl.OpHigh:
		return d%65536 + in.Imm*65536, true
	case impl.OpMove:
		return a, true
	case impl.OpAdd:
		return modulo(x.Add(x, y)), true
	case impl.OpNear:
		return modulo(y.Add(y, big.NewInt(int64(widenedAsTold(in.Imm))))), true
	case impl.OpSub:
		return modulo(x.Sub(x, y)), true
	case impl.OpMul:
		return modulo(x.Mul(x, y)), true
	case impl.OpAnd:
		return bitByBit(d, a, func(x int, y int) bool { return x+y == 2 }), true
	case impl.OpOr:
		return bitByBit(d, a, func(x int, y int) bool { return x+y > 0 }), true
	case impl.OpXor:
		return bitByBit(d, a, func(x int, y int) bool { return x != y }), true
	case impl.OpLeft, impl.OpRight:
		return movedAsTold(d, a, in.Op == impl.OpLeft), true
	}
	return 0, false
}

// widthAsTold gives the number of bytes of a load or a store, and whether it is a store.
func widthAsTold(op int) (int, bool) {
	switch op {
	case impl.OpLoadB, impl.OpStoreB:
		return 1, op == impl.OpStoreB
	case impl.OpLoadH, impl.OpStoreH:
		return 2, op == impl.OpStoreH
	case impl.OpLoadW, impl.OpStoreW:
		return 4, op == impl.OpStoreW
	}
	return 0, false
}

// wrapped brings a number to a word.
func wrapped(v int) int {
	return ((v % wordEnd) + wordEnd) % wordEnd
}

// stepAsTold does a step of a valid core and memory with valid regions in the document's words.
func stepAsTold(c impl.Core, m impl.Mem, rs []impl.Region) told {
	want := told{core: cloneCore(c), mem: cloneMem(m), did: impl.DidFault}
	if !allowedAsTold(rs, c.Pc, 4, impl.ForExec) {
		want.n = impl.FaultRegion
		return want
	}
	word, fault := readAsTold(m, c.Pc, 4)
	if fault != 0 {
		want.n = fault
		return want
	}
	in := impl.Ins{Op: word / 67108864, D: word / 8388608 % 8, A: word / 1048576 % 8, Imm: word % 65536}
	if word/65536%16 != 0 || !insAsTold(in) {
		want.n = impl.FaultDecode
		return want
	}
	if size, _ := widthAsTold(in.Op); size > 0 {
		return accessAsTold(want, in, rs)
	}
	return flowAsTold(want, in)
}

// accessAsTold does a load or store.
func accessAsTold(want told, in impl.Ins, rs []impl.Region) told {
	size, store := widthAsTold(in.Op)
	at := wrapped(want.core.Regs[in.A] + widenedAsTold(in.Imm))
	what, v := impl.ForRead, 0
	mem := want.mem
	if store {
		what = impl.ForWrite
		mem, want.n = writeAsTold(mem, at, size, want.core.Regs[in.D])
	} else {
		v, want.n = readAsTold(mem, at, size)
	}
	if !allowedAsTold(rs, at, size, what) {
		want.n = impl.FaultRegion
	}
	if want.n != 0 {
		return want
	}
	want.did, want.mem, want.core.Pc = impl.DidGo, mem, wrapped(want.core.Pc+4)
	if !store {
		want.core.Regs[in.D] = v
	}
	return want
}

// flowAsTold does an instruction that has no fault.
func flowAsTold(want told, in impl.Ins) told {
	next := wrapped(want.core.Pc + 4)
	there := wrapped(want.core.Pc + 4 + 4*widenedAsTold(in.Imm))
	d, a := want.core.Regs[in.D], want.core.Regs[in.A]
	want.did, want.core.Pc = impl.DidGo, next
	if v, ok := valueAsTold(in, d, a); ok {
		want.core.Regs[in.D] = v
	}
	switch in.Op {
	case impl.OpStop:
		want.did = impl.DidStop
	case impl.OpCall:
		want.did, want.n = impl.DidCall, there
	case impl.OpImport:
		want.did, want.n = impl.DidImport, in.Imm
	case impl.OpReturn:
		want.did = impl.DidReturn
	}
	if in.Op == impl.OpJump || in.Op == impl.OpZero && d == 0 || in.Op == impl.OpMinus && d >= 2147483648 {
		want.core.Pc = there
	}
	return want
}

// wantStep does a step, holds it against what is told, and looks whether an argument was changed.
func wantStep(t *testing.T, c impl.Core, m impl.Mem, rs []impl.Region, want told) {
	t.Helper()
	core, mem, regions := cloneCore(c), cloneMem(m), slices.Clone(rs)
	gotCore, gotMem, did, n := impl.Step(c, m, rs)
	if did != want.did || n != want.n || !sameCore(gotCore, want.core) || !sameMem(gotMem, want.mem) {
		t.Fatalf("step of %v gives %v, %d, %d, not %v, %d, %d", c, gotCore, did, n, want.core, want.did, want.n)
	}
	if !sameCore(c, core) || !sameMem(m, mem) || !slices.Equal(rs, regions) {
		t.Fatalf("step of %v changed an argument", core)
	}
	wantLittleChanged(t, c, m, gotCore, gotMem, did)
}

// wantLittleChanged is promise 5 by itself.
func wantLittleChanged(t *testing.T, c impl.Core, m impl.Mem, gotCore impl.Core, gotMem impl.Mem, did int) {
	t.Helper()
	regs, bytes := 0, 0
	for i := range gotCore.Regs {
		if gotCore.Regs[i] != c.Regs[i] {
			regs++
		}
	}
	first, last := len(m.Ram), -1
	for i := range m.Ram {
		if gotMem.Ram[i] != m.Ram[i] {
			first, last = min(first, i), i
		}
	}
	if last >= 0 {
		bytes = last - first + 1
	}
	out := len(gotMem.Out) - len(m.Out)
	if string(gotMem.Flash) != string(m.Flash) || bytes > 4 || first/4 != last/4 && last >= 0 || out > 1 || regs > 1 {
		t.Fatalf("step of %v changed %d registers, %d bytes of Ram and %d of Out", c, regs, bytes, out)
	}
	if regs > 0 && bytes+out > 0 || bytes > 0 && out > 0 || did != impl.DidGo && regs+bytes+out > 0 {
		t.Fatalf("step of %v changed %d registers, %d bytes of Ram and %d of Out", c, regs, bytes, out)
	}
}

// someWords are words at all ends.
func someWords() []int {
	return []int{0, 1, 2, 3, 5, 30, 31, 32, 33, 63, 64, 65535, 65536, 65537, 123456789, 2147483647, 2147483648, 2147483649, 4294901760, 4294967264, 4294967294, 4294967295}
}

// TestStepOfValues tries each Op that makes a value of D, A and Imm, with D and A at 0, 7 and the same one.
func TestStepOfValues(t *testing.T) {
	for op := impl.OpSet; op <= impl.OpRight; op++ {
		uses, _ := usesAsTold(op)
		imms := []int{0}
		if uses != "DA" {
			imms = []int{0, 1, 4, 32767, 32768, 65535}
		}
		for _, pair := range [][2]int{{0, 7}, {7, 0}, {3, 3}, {7, 7}, {0, 0}, {1, 6}} {
			if uses == "DI" {
				pair[1] = 0
			}
			for _, imm := range imms {
				m := putWord(smallMem(), 12, ins(op, pair[0], pair[1], imm))
				for _, d := range someWords() {
					for _, a := range someWords() {
						c := coreAt(12)
						c.Regs[pair[1]] = a
						c.Regs[pair[0]] = d
						wantStep(t, c, m, openRegions(), stepAsTold(c, m, openRegions()))
					}
				}
			}
		}
	}
}

// TestStepOfValuesInPlainNumbers needs no model.
func TestStepOfValuesInPlainNumbers(t *testing.T) {
	for i, c := range []struct{ op, imm, d, a, want int }{
		{impl.OpSet, 0, 9, 8, 0}, {impl.OpSet, 65535, 4294967295, 8, 65535}, {impl.OpSet, 32768, 0, 8, 32768},
		{impl.OpHigh, 0, 4294967295, 8, 65535}, {impl.OpHigh, 65535, 0, 8, 4294901760}, {impl.OpHigh, 32768, 7, 8, 2147483655}, {impl.OpHigh, 1, 65536, 8, 65536},
		{impl.OpMove, 0, 1, 4294967295, 4294967295}, {impl.OpMove, 0, 1, 0, 0},
		{impl.OpAdd, 0, 4294967295, 1, 0}, {impl.OpAdd, 0, 4294967295, 4294967295, 4294967294}, {impl.OpAdd, 0, 2, 3, 5},
		{impl.OpNear, 1, 9, 4294967295, 0}, {impl.OpNear, 65535, 9, 0, 4294967295}, {impl.OpNear, 32768, 9, 0, 4294934528}, {impl.OpNear, 32767, 9, 1, 32768}, {impl.OpNear, 32768, 9, 40000, 7232},
		{impl.OpSub, 0, 0, 1, 4294967295}, {impl.OpSub, 0, 0, 4294967295, 1}, {impl.OpSub, 0, 9, 4, 5},
		{impl.OpMul, 0, 4294967295, 4294967295, 1}, {impl.OpMul, 0, 65536, 65536, 0}, {impl.OpMul, 0, 2147483648, 3, 2147483648}, {impl.OpMul, 0, 4294967295, 2, 4294967294}, {impl.OpMul, 0, 6, 7, 42},
		{impl.OpAnd, 0, 4294967295, 2863311530, 2863311530}, {impl.OpOr, 0, 1431655765, 2863311530, 4294967295}, {impl.OpXor, 0, 4294967295, 2863311530, 1431655765}, {impl.OpXor, 0, 5, 5, 0},
		{impl.OpLeft, 0, 3, 0, 3}, {impl.OpLeft, 0, 3, 1, 6}, {impl.OpLeft, 0, 3, 31, 2147483648}, {impl.OpLeft, 0, 3, 32, 3}, {impl.OpLeft, 0, 3, 4294967295, 2147483648}, {impl.OpLeft, 0, 4294967295, 8, 4294967040},
		{impl.OpRight, 0, 2147483649, 0, 2147483649}, {impl.OpRight, 0, 4294967295, 31, 1}, {impl.OpRight, 0, 4294967295, 32, 4294967295}, {impl.OpRight, 0, 4294967295, 33, 2147483647}, {impl.OpRight, 0, 4294967295, 4294967264, 4294967295},
	} {
		core := coreAt(0, 11, c.d, c.a)
		a := 2
		if c.op == impl.OpSet || c.op == impl.OpHigh {
			a = 0
		}
		want := coreAt(4, 11, c.want, c.a)
		got, mem, did, n := impl.Step(core, impl.Mem{Flash: putWord(smallMem(), 0, ins(c.op, 1, a, c.imm)).Flash}, openRegions())
		if did != impl.DidGo || n != 0 || !sameCore(got, want) || len(mem.Ram)+len(mem.Out) != 0 {
			t.Errorf("case %d: %v, %d, %d", i, got, did, n)
		}
	}
}

// accessOps are the Ops of loads and stores.
func accessOps() []int {
	return []int{impl.OpLoadB, impl.OpLoadH, impl.OpLoadW, impl.OpStoreB, impl.OpStoreH, impl.OpStoreW}
}

// TestStepOfLoadsAndStores goes round all edges of the memory, by way of A alone and of A with a widened Imm, with several rights.
func TestStepOfLoadsAndStores(t *testing.T) {
	full := smallMem()
	full.Out = numbered(impl.MaxOut, 4)
	shut := []impl.Region{{Log: 5, Exec: true}}
	reading := []impl.Region{{Log: 7, Read: true, Exec: true}, {Base: impl.RamBase, Log: 7, Read: true}, {Base: impl.Port, Log: 5, Read: true}}
	writing := []impl.Region{{Log: 7, Write: true, Exec: true}, {Base: impl.RamBase, Log: 7, Write: true}, {Base: impl.Port, Log: 5, Write: true}}
	half := []impl.Region{{Log: 7, Exec: true}, {Base: impl.RamBase, Log: 6, Read: true, Write: true}, {Base: impl.RamBase + 32, Log: 5}}
	for _, m := range []impl.Mem{smallMem(), full} {
		for _, rs := range [][]impl.Region{openRegions(), shut, reading, writing, half} {
			for _, op := range accessOps() {
				for _, imm := range []int{0, 4, 32767, 32768, 65535} {
					stepsAtEdges(t, m, rs, op, imm)
				}
			}
		}
	}
}

// stepsAtEdges makes the sum of A and Imm an address around each edge.
func stepsAtEdges(t *testing.T, m impl.Mem, rs []impl.Region, op int, imm int) {
	t.Helper()
	m = putWord(m, 8, ins(op, 2, 5, imm))
	for _, mid := range []int{0, 32, 64, impl.RamBase, impl.RamBase + 32, impl.RamBase + 64, impl.RamBase + 128, impl.Port, wordEnd} {
		for d := -5; d <= 5; d++ {
			c := coreAt(8)
			c.Regs[2] = 4042322160
			c.Regs[5] = wrapped(mid + d - widenedAsTold(imm))
			wantStep(t, c, m, rs, stepAsTold(c, m, rs))
		}
	}
}

// TestStepOfAccessInPlainNumbers needs no model: where a load or store goes, and what it leaves.
func TestStepOfAccessInPlainNumbers(t *testing.T) {
	for i, c := range []struct {
		op, imm, d, a, want int
		ram                 []byte
	}{
		{impl.OpLoadB, 7, 0, impl.RamBase, 255, nil}, {impl.OpLoadH, 6, 0, impl.RamBase, 65288, nil}, {impl.OpLoadW, 4, 0, impl.RamBase, 4278715909, nil},
		{impl.OpLoadB, 65535, 0, impl.RamBase + 1, 1, nil}, {impl.OpLoadH, 65532, 0, impl.RamBase + 8, 1541, nil}, {impl.OpLoadW, 32768, 0, impl.RamBase + 32768, 67305985, nil},
		{impl.OpLoadB, 32767, 0, impl.RamBase - 32767, 1, nil}, {impl.OpLoadB, 4, 99, 4294967292, 4, nil}, {impl.OpLoadW, 32767, 99, wordEnd - 32767, ins(impl.OpLoadW, 1, 2, 32767), nil},
		{impl.OpStoreB, 0, 1023, impl.RamBase, 1023, []byte{255, 2, 3, 4, 5, 6, 8, 255}}, {impl.OpStoreH, 2, 2147549183, impl.RamBase, 2147549183, []byte{1, 2, 255, 255, 5, 6, 8, 255}},
		{impl.OpStoreW, 65532, 2018915346, impl.RamBase + 8, 2018915346, []byte{1, 2, 3, 4, 18, 52, 86, 120}}, {impl.OpStoreB, 65535, 0, impl.RamBase + 8, 0, []byte{1, 2, 3, 4, 5, 6, 8, 0}},
	} {
		m := putWord(impl.Mem{Flash: make([]byte, 8), Ram: []byte{1, 2, 3, 4, 5, 6, 8, 255}}, 0, ins(c.op, 1, 2, c.imm))
		want := cloneMem(m)
		if c.ram != nil {
			want.Ram = c.ram
		}
		got, mem, did, n := impl.Step(coreAt(0, 11, c.d, c.a), m, openRegions())
		if did != impl.DidGo || n != 0 || !sameCore(got, coreAt(4, 11, c.want, c.a)) || !sameMem(mem, want) {
			t.Errorf("case %d: %v, %v, %d, %d", i, got, mem, did, n)
		}
	}
}

// TestStepIntoItself: A is D, and a store writes over the instruction that does it.
func TestStepIntoItself(t *testing.T) {
	load := putWord(smallMem(), 4, ins(impl.OpLoadW, 6, 6, 65532))
	c := coreAt(4)
	c.Regs[6] = impl.RamBase + 12
	want := told{core: cloneCore(c), mem: load}
	want.core.Pc = 8
	want.core.Regs[6], _ = readAsTold(load, impl.RamBase+8, 4)
	wantStep(t, c, load, openRegions(), want)

	store := putWord(smallMem(), impl.RamBase+8, ins(impl.OpStoreW, 6, 6, 0))
	c = coreAt(impl.RamBase + 8)
	c.Regs[6] = impl.RamBase + 8
	want = told{core: cloneCore(c), mem: putWord(store, impl.RamBase+8, impl.RamBase+8)}
	want.core.Pc = impl.RamBase + 12
	wantStep(t, c, store, openRegions(), want)
}

// TestStepPutsOut: each width puts one byte behind Out, until it is full.
func TestStepPutsOut(t *testing.T) {
	for _, op := range []int{impl.OpStoreB, impl.OpStoreH, impl.OpStoreW} {
		m := putWord(smallMem(), 0, ins(op, 0, 1, 0))
		c := coreAt(0, 4294967142, impl.Port)
		want := told{core: cloneCore(c), mem: cloneMem(m)}
		want.core.Pc = 4
		want.mem.Out = append(want.mem.Out, 102)
		wantStep(t, c, m, openRegions(), want)
		m.Out = make([]byte, impl.MaxOut)
		wantStep(t, c, m, openRegions(), told{core: c, mem: m, did: impl.DidFault, n: impl.FaultPort})
		wantStep(t, c, m, openRegions()[:2], told{core: c, mem: m, did: impl.DidFault, n: impl.FaultRegion})
	}
	m := putWord(smallMem(), 0, ins(impl.OpStoreB, 0, 1, 0))
	m.Out = append(make([]byte, 0, 64), 1, 2)
	impl.Step(coreAt(0, 9, impl.Port), m, openRegions())
	if m.Out[:3][2] != 0 {
		t.Errorf("the byte is put into the room behind the argument's Out")
	}
}

// TestStepOfFlow tries all jumps and all that ends a step, in Flash and in Ram, with D at all ends.
func TestStepOfFlow(t *testing.T) {
	for _, op := range []int{impl.OpStop, impl.OpJump, impl.OpZero, impl.OpMinus, impl.OpCall, impl.OpImport, impl.OpReturn} {
		uses, _ := usesAsTold(op)
		regs, imms := []int{0}, []int{0}
		if uses == "DI" {
			regs = []int{0, 4, 7}
		}
		if uses != "" {
			imms = []int{0, 1, 2, 32767, 32768, 32769, 65533, 65534, 65535}
		}
		for _, pc := range []int{0, 4, 60, impl.RamBase, impl.RamBase + 60} {
			for _, r := range regs {
				for _, imm := range imms {
					m := putWord(smallMem(), pc, ins(op, r, 0, imm))
					for _, d := range someWords() {
						c := coreAt(pc)
						c.Regs[r] = d
						wantStep(t, c, m, openRegions(), stepAsTold(c, m, openRegions()))
					}
				}
			}
		}
	}
}

// TestStepOfFlowInPlainNumbers needs no model.
func TestStepOfFlowInPlainNumbers(t *testing.T) {
	for _, c := range []struct{ op, imm, pc, d, there, did, n int }{
		{impl.OpJump, 0, 8, 0, 12, impl.DidGo, 0}, {impl.OpJump, 1, 8, 0, 16, impl.DidGo, 0}, {impl.OpJump, 65535, 8, 0, 8, impl.DidGo, 0}, {impl.OpJump, 65533, 8, 0, 0, impl.DidGo, 0},
		{impl.OpJump, 65532, 8, 0, 4294967292, impl.DidGo, 0}, {impl.OpJump, 32768, 8, 0, 4294836236, impl.DidGo, 0}, {impl.OpJump, 32767, 8, 0, 131080, impl.DidGo, 0}, {impl.OpJump, 65534, 0, 0, 4294967292, impl.DidGo, 0},
		{impl.OpZero, 2, 8, 0, 20, impl.DidGo, 0}, {impl.OpZero, 2, 8, 1, 12, impl.DidGo, 0}, {impl.OpZero, 2, 8, 4294967295, 12, impl.DidGo, 0}, {impl.OpZero, 65532, 8, 0, 4294967292, impl.DidGo, 0}, {impl.OpZero, 65532, 8, 2147483648, 12, impl.DidGo, 0},
		{impl.OpMinus, 2, 8, 2147483648, 20, impl.DidGo, 0}, {impl.OpMinus, 2, 8, 4294967295, 20, impl.DidGo, 0}, {impl.OpMinus, 2, 8, 2147483647, 12, impl.DidGo, 0}, {impl.OpMinus, 2, 8, 0, 12, impl.DidGo, 0}, {impl.OpMinus, 32768, 8, 4294967295, 4294836236, impl.DidGo, 0},
		{impl.OpStop, 0, 8, 5, 12, impl.DidStop, 0}, {impl.OpReturn, 0, 8, 5, 12, impl.DidReturn, 0},
		{impl.OpCall, 0, 8, 5, 12, impl.DidCall, 12}, {impl.OpCall, 65535, 8, 5, 12, impl.DidCall, 8}, {impl.OpCall, 65532, 8, 5, 12, impl.DidCall, 4294967292}, {impl.OpCall, 32768, 8, 5, 12, impl.DidCall, 4294836236}, {impl.OpCall, 32767, 8, 5, 12, impl.DidCall, 131080},
		{impl.OpImport, 0, 8, 5, 12, impl.DidImport, 0}, {impl.OpImport, 32768, 8, 5, 12, impl.DidImport, 32768}, {impl.OpImport, 65535, 8, 5, 12, impl.DidImport, 65535},
	} {
		m := putWord(smallMem(), c.pc, ins(c.op, 0, 0, c.imm))
		core := coreAt(c.pc, c.d)
		wantStep(t, core, m, openRegions(), told{core: coreAt(c.there, c.d), mem: m, did: c.did, n: c.n})
	}
}

// TestStepOfWordsThatAreNone: Ops 0 and 26 to 63, bits 16 to 19, and fields that are not used.
func TestStepOfWordsThatAreNone(t *testing.T) {
	words := []int{0, 1, 4294967295}
	for op := range 64 {
		uses, ok := usesAsTold(op)
		if !ok {
			words = append(words, op<<26, op<<26|1)
			continue
		}
		for bit := range 26 {
			used := bit < 16 && uses != "" && uses != "DA" || bit >= 20 && bit < 23 && (uses == "DA" || uses == "DAI") || bit >= 23 && uses != "" && uses != "I"
			if !used {
				words = append(words, op<<26|1<<bit)
			}
		}
	}
	for _, word := range words {
		m := putWord(smallMem(), 16, word)
		c := coreAt(16)
		wantStep(t, c, m, openRegions(), told{core: c, mem: m, did: impl.DidFault, n: impl.FaultDecode})
	}
}

// TestStepOfInvalidCores: nothing else is looked at, and the core comes back as it is.
func TestStepOfInvalidCores(t *testing.T) {
	eight := coreAt(0).Regs
	cores := []impl.Core{{}, {Pc: 0, Regs: eight[:7]}, {Pc: 0, Regs: append(slices.Clone(eight), 0)}, {Pc: 0, Regs: make([]int, 20)}, {Pc: 0, Regs: []int{}}, {Pc: -1}}
	for _, no := range []int{-1, -4, wordEnd, wordEnd + 4, math.MaxInt, math.MinInt} {
		cores = append(cores, impl.Core{Pc: no, Regs: eight})
		for i := range 8 {
			c := coreAt(0)
			c.Regs[i] = no
			cores = append(cores, c)
		}
	}
	m := putWord(smallMem(), 0, ins(impl.OpStop, 0, 0, 0))
	for _, c := range cores {
		for _, rs := range [][]impl.Region{openRegions(), nil, {{Log: 4}}} {
			for _, m := range append(badMems(), m, impl.Mem{}) {
				wantStep(t, c, m, rs, told{core: c, mem: m, did: impl.DidFault, n: impl.FaultBus})
			}
		}
	}
}

func TestStepOfInvalidMemory(t *testing.T) {
	for _, m := range badMems() {
		m = putWord(m, 0, ins(impl.OpStop, 0, 0, 0))
		for _, c := range []impl.Core{coreAt(0), coreAt(2), coreAt(4294967295)} {
			for _, rs := range [][]impl.Region{openRegions(), nil, {{Log: 4}}} {
				wantStep(t, c, m, rs, told{core: c, mem: m, did: impl.DidFault, n: impl.FaultBus})
			}
		}
	}
	greatest := putWord(greatestMem(), impl.MaxFlash-4, ins(impl.OpLoadB, 0, 1, 0))
	c := coreAt(impl.MaxFlash-4, 0, impl.RamBase+impl.MaxRam-1)
	rs := []impl.Region{{Base: 0, Log: 14, Exec: true}, {Base: impl.RamBase, Log: 14, Read: true}}
	want := told{core: coreAt(impl.MaxFlash, int(greatest.Ram[impl.MaxRam-1]), impl.RamBase+impl.MaxRam-1), mem: greatest}
	wantStep(t, c, greatest, rs, want)
}

// TestStepOfRegions: what is executed needs Exec and no more, from the last region that has it, in all four bytes.
func TestStepOfRegions(t *testing.T) {
	m := putWord(smallMem(), 28, ins(impl.OpReturn, 0, 0, 0))
	exec := impl.Region{Log: 5, Exec: true}
	rest := impl.Region{Log: 5, Read: true, Write: true}
	ninth := slices.Repeat([]impl.Region{exec}, 9)
	for i, c := range []struct {
		rs []impl.Region
		ok bool
	}{
		{[]impl.Region{exec}, true}, {[]impl.Region{rest, exec}, true}, {ninth[:8], true}, {[]impl.Region{{Log: 8, Off: 254, Exec: true}}, true},
		{nil, false}, {[]impl.Region{}, false}, {[]impl.Region{rest}, false}, {[]impl.Region{exec, rest}, false}, {ninth, false}, {[]impl.Region{{Log: 5}}, false}, {[]impl.Region{{Log: 8, Off: 1, Exec: true}}, false}, {[]impl.Region{{Base: 32, Log: 5, Exec: true}}, false},
		{[]impl.Region{exec, {Log: 4}}, false}, {[]impl.Region{{Base: -32, Log: 5}, exec}, false}, {[]impl.Region{{Base: 1, Log: 5, Exec: true}}, false}, {[]impl.Region{{Log: 7, Off: 1, Exec: true}}, false}, {[]impl.Region{{Log: math.MinInt, Exec: true}}, false}, {[]impl.Region{{Log: 8, Off: 256, Exec: true}}, false},
	} {
		want := told{core: coreAt(32), mem: m, did: impl.DidReturn}
		if !c.ok {
			want = told{core: coreAt(28), mem: m, did: impl.DidFault, n: impl.FaultRegion}
		}
		t.Log("case", i)
		wantStep(t, coreAt(28), m, c.rs, want)
	}
}

// TestOrderOfFaults has cases to which two faults or more apply.
func TestOrderOfFaults(t *testing.T) {
	open := openRegions()
	exec := []impl.Region{{Log: 7, Exec: true}}
	readOnly := []impl.Region{{Log: 7, Read: true, Exec: true}, {Base: impl.RamBase, Log: 7, Read: true}, {Base: impl.Port, Log: 5, Read: true}}
	writeOnly := []impl.Region{{Log: 7, Write: true, Exec: true}, {Base: impl.RamBase, Log: 7, Write: true}, {Base: impl.Port, Log: 5, Write: true}}
	loadB, loadW, storeH, storeW := ins(impl.OpLoadB, 0, 1, 0), ins(impl.OpLoadW, 0, 1, 0), ins(impl.OpStoreH, 0, 1, 0), ins(impl.OpStoreW, 0, 1, 0)
	for i, c := range []struct {
		pc, word, a int
		rs          []impl.Region
		fault       int
	}{
		{2, 0, 0, nil, impl.FaultRegion}, {1, 0, 0, open[1:], impl.FaultRegion}, {64, 0, 0, nil, impl.FaultRegion}, {129, 0, 0, open, impl.FaultRegion}, {4294967295, 0, 0, open, impl.FaultRegion}, {4294967292, 0, 0, open, impl.FaultRegion}, {0, 0, 0, open[1:], impl.FaultRegion},
		{126, 0, 0, open, impl.FaultRegion}, {124, 0, 0, open, impl.FaultBus}, {125, 0, 0, open[:2], impl.FaultRegion}, {impl.RamBase - 2, 0, 0, open, impl.FaultRegion},
		{2, loadW, 0, open, impl.FaultAlign}, {61, 0, 0, open, impl.FaultAlign}, {62, 0, 0, open, impl.FaultAlign}, {70, 0, 0, open, impl.FaultAlign}, {impl.Port + 2, 0, 0, open, impl.FaultAlign}, {impl.Port + 1, 0, 0, open, impl.FaultAlign},
		{impl.Port, 0, 0, open, impl.FaultPort}, {impl.Port, 0, 0, open[:2], impl.FaultRegion}, {impl.Port + 4, 0, 0, open, impl.FaultBus},
		{64, 0, 0, open, impl.FaultBus}, {impl.RamBase + 64, 0, 0, open, impl.FaultBus},
		{4, 0, 0, exec, impl.FaultDecode}, {4, loadW | 1<<16, 1, exec, impl.FaultDecode}, {4, storeW | 1<<19, 2, open, impl.FaultDecode}, {impl.RamBase, 0, 0, open, impl.FaultDecode},
		{4, loadW, 2, exec, impl.FaultRegion}, {4, loadW, 126, exec, impl.FaultRegion}, {4, loadW, impl.Port, open[:2], impl.FaultRegion}, {4, loadW, impl.Port, writeOnly, impl.FaultRegion}, {4, loadW, 2, writeOnly, impl.FaultRegion}, {4, loadB, 4294967295, open, impl.FaultRegion}, {4, loadW, 4294967293, open, impl.FaultRegion},
		{4, loadW, 62, open, impl.FaultAlign}, {4, loadW, 70, open, impl.FaultAlign}, {4, loadW, impl.Port + 2, open, impl.FaultAlign}, {4, loadW, impl.Port, open, impl.FaultPort}, {4, loadB, impl.Port, readOnly, impl.FaultPort}, {4, loadW, 64, open, impl.FaultBus}, {4, loadB, impl.RamBase + 64, readOnly, impl.FaultBus},
		{4, storeW, 0, exec, impl.FaultRegion}, {4, storeW, 0, readOnly, impl.FaultRegion}, {4, storeW, 1, readOnly, impl.FaultRegion}, {4, storeW, impl.Port, readOnly, impl.FaultRegion}, {4, storeH, impl.RamBase + 1, readOnly, impl.FaultRegion}, {4, storeW, 4294967294, open, impl.FaultRegion},
		{4, storeW, 1, writeOnly, impl.FaultAlign}, {4, storeW, 62, writeOnly, impl.FaultAlign}, {4, storeH, impl.Port + 1, writeOnly, impl.FaultAlign}, {4, storeH, 2, writeOnly, impl.FaultFlash}, {4, storeW, 60, open, impl.FaultFlash}, {4, storeW, 64, open, impl.FaultBus}, {4, storeH, impl.Port + 2, open, impl.FaultBus},
	} {
		m := smallMem()
		if c.pc%4 == 0 {
			m = putWord(m, c.pc, c.word)
		}
		core := coreAt(c.pc, 77, c.a)
		t.Log("case", i)
		wantStep(t, core, m, c.rs, told{core: core, mem: m, did: impl.DidFault, n: c.fault})
	}
}

// TestStepSharesNothing overwrites the answer, and the room behind its lists, and looks at the arguments.
func TestStepSharesNothing(t *testing.T) {
	words := []int{ins(impl.OpSet, 1, 0, 3), ins(impl.OpStoreB, 0, 1, 0), ins(impl.OpStop, 0, 0, 0), ins(impl.OpCall, 0, 0, 0), 0}
	for _, at := range []int{impl.RamBase, impl.Port, 0} {
		for _, word := range words {
			for _, n := range []int{7, 8, 9} {
				all := make([]byte, 64)
				m := impl.Mem{Flash: all[0:8], Ram: all[16:30], Out: all[40:43]}
				copy(m.Flash, putWord(m, 0, word).Flash)
				before := string(all)
				regs := []int{5, at, 2, 3, 4, 5, 6, 7, 8, 9, 10, 11}
				core, mem, _, _ := impl.Step(impl.Core{Regs: regs[:n]}, m, openRegions())
				for _, b := range [][]byte{mem.Flash, mem.Ram, mem.Out} {
					full := b[:cap(b)]
					for i := range full {
						full[i] = 99
					}
				}
				full := core.Regs[:cap(core.Regs)]
				for i := range full {
					full[i] = -9
				}
				if string(all) != before || !slices.Equal(regs, []int{5, at, 2, 3, 4, 5, 6, 7, 8, 9, 10, 11}) {
					t.Errorf("step of the word %#x at %d with %d registers shares memory with an argument", word, at, n)
				}
				wantApart(t, mem)
			}
		}
	}
}

// wantApart changes one list of a memory after the other, and looks at the rest.
func wantApart(t *testing.T, m impl.Mem) {
	t.Helper()
	lists := [][]byte{m.Flash, m.Ram, m.Out}
	for i, b := range lists {
		full := b[:cap(b)]
		for k := range full {
			full[k] = byte(10 + i)
		}
	}
	for i, b := range lists {
		for _, v := range b[:cap(b)] {
			if v != byte(10+i) {
				t.Fatalf("list %d shares memory with another", i)
			}
		}
	}
}

// TestStepsOfAProgram runs a loop that sums 5 .. 1 and puts the sum out.
func TestStepsOfAProgram(t *testing.T) {
	m := impl.Mem{Flash: make([]byte, 64), Ram: make([]byte, 8)}
	for i, word := range []int{
		ins(impl.OpSet, 0, 0, 5), ins(impl.OpSet, 1, 0, 0), ins(impl.OpZero, 0, 0, 3), ins(impl.OpAdd, 1, 0, 0), ins(impl.OpNear, 0, 0, 65535), ins(impl.OpJump, 0, 0, 65532),
		ins(impl.OpSet, 2, 0, 0), ins(impl.OpHigh, 2, 0, 2), ins(impl.OpStoreB, 1, 2, 0), ins(impl.OpStop, 0, 0, 0),
	} {
		m = putWord(m, 4*i, word)
	}
	c := impl.Core{Regs: make([]int, 8)}
	for ticks := 0; ; ticks++ {
		var did, n int
		c, m, did, n = impl.Step(c, m, openRegions())
		if did == impl.DidGo && ticks < 100 {
			continue
		}
		if did != impl.DidStop || n != 0 || string(m.Out) != "\x0f" || c.Pc != 40 || c.Regs[1] != 15 || ticks != 26 {
			t.Errorf("after %d ticks: %v %v %d %d", ticks, c, m.Out, did, n)
		}
		return
	}
}
