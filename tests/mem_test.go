package tests

import (
	"math"
	"testing"

	"loop.example/s01513/impl"
)

// someMem has lists that all lie in one array with room behind each, so that sharing and writing too far show.
func someMem() impl.Mem {
	all := make([]byte, 64)
	for i := range all {
		all[i] = byte(200 + i)
	}
	return impl.Mem{Flash: all[0:10], Ram: all[16:30], Out: all[40:43]}
}

// numbered gives n bytes that differ from their neighbours.
func numbered(n int, first int) []byte {
	b := make([]byte, n)
	for i := range b {
		b[i] = byte(first + 7*i)
	}
	return b
}

func greatestMem() impl.Mem {
	return impl.Mem{Flash: numbered(impl.MaxFlash, 3), Ram: numbered(impl.MaxRam, 90), Out: numbered(impl.MaxOut, 50)}
}

func sameMem(a impl.Mem, b impl.Mem) bool {
	return string(a.Flash) == string(b.Flash) && string(a.Ram) == string(b.Ram) && string(a.Out) == string(b.Out)
}

func cloneMem(m impl.Mem) impl.Mem {
	return impl.Mem{Flash: append([]byte{}, m.Flash...), Ram: append([]byte{}, m.Ram...), Out: append([]byte{}, m.Out...)}
}

// badMems are memories that are not valid, each by one list of one byte too many.
func badMems() []impl.Mem {
	return []impl.Mem{
		{Flash: make([]byte, impl.MaxFlash+1), Ram: numbered(8, 1), Out: numbered(2, 1)},
		{Flash: numbered(8, 1), Ram: make([]byte, impl.MaxRam+1), Out: numbered(2, 1)},
		{Flash: numbered(8, 1), Ram: numbered(8, 1), Out: make([]byte, impl.MaxOut+1)},
	}
}

// edgeAddresses are addresses around all that the document names, and the ends of int.
func edgeAddresses(m impl.Mem) []int {
	var list []int
	for _, mid := range []int{0, len(m.Flash), impl.MaxFlash, impl.RamBase, impl.RamBase + len(m.Ram), impl.RamBase + impl.MaxRam, impl.Port, 262144, 1 << 32, 1<<32 + impl.RamBase} {
		for d := -9; d <= 9; d++ {
			list = append(list, mid+d)
		}
	}
	for d := range 9 {
		list = append(list, math.MaxInt-d, math.MinInt+d, math.MinInt+impl.RamBase+d)
	}
	return list
}

// byteAt gives the byte of one address, as the document numbers them.
func byteAt(m impl.Mem, at int) (int, bool) {
	for i, b := range m.Flash {
		if i == at {
			return int(b), true
		}
	}
	for i, b := range m.Ram {
		if impl.RamBase+i == at {
			return int(b), true
		}
	}
	return 0, false
}

// inList says whether size bytes at an address are all in a list that begins at base.
func inList(n int, base int, at int, size int) bool {
	for i := range size {
		if at < base || at+i < base || at+i >= base+n {
			return false
		}
	}
	return true
}

func readAsTold(m impl.Mem, at int, size int) (int, int) {
	if size != 1 && size != 2 && size != 4 {
		return 0, impl.FaultBus
	}
	if at%size != 0 {
		return 0, impl.FaultAlign
	}
	if at == impl.Port {
		return 0, impl.FaultPort
	}
	if !inList(len(m.Flash), 0, at, size) && !inList(len(m.Ram), impl.RamBase, at, size) {
		return 0, impl.FaultBus
	}
	v, place := 0, 1
	for i := range size {
		b, _ := byteAt(m, at+i)
		v += b * place
		place *= 256
	}
	return v, 0
}

// writeAsTold writes into its own copy, byte by byte.
func writeAsTold(m impl.Mem, at int, size int, v int) (impl.Mem, int) {
	got := cloneMem(m)
	if size != 1 && size != 2 && size != 4 {
		return got, impl.FaultBus
	}
	if at%size != 0 {
		return got, impl.FaultAlign
	}
	low := ((v % (1 << 32)) + (1 << 32)) % (1 << 32)
	if at == impl.Port {
		if len(m.Out) == impl.MaxOut {
			return got, impl.FaultPort
		}
		got.Out = append(got.Out, byte(low%256))
		return got, 0
	}
	if inList(len(m.Flash), 0, at, size) {
		return got, impl.FaultFlash
	}
	if !inList(len(m.Ram), impl.RamBase, at, size) {
		return got, impl.FaultBus
	}
	for i := range size {
		got.Ram[at-impl.RamBase+i] = byte(low % 256)
		low /= 256
	}
	return got, 0
}

func TestMemOk(t *testing.T) {
	for i, m := range []impl.Mem{{}, someMem(), greatestMem(), {Flash: make([]byte, impl.MaxFlash)}, {Ram: make([]byte, impl.MaxRam)}, {Out: make([]byte, impl.MaxOut)}} {
		if !impl.MemOk(m) {
			t.Errorf("valid memory %d is refused", i)
		}
	}
	for i, m := range badMems() {
		if impl.MemOk(m) {
			t.Errorf("memory %d that is not valid is taken", i)
		}
	}
}

func TestReadInPlainNumbers(t *testing.T) {
	m := impl.Mem{Flash: []byte{1, 2, 3, 4, 255, 254, 253, 252}, Ram: []byte{10, 20, 30, 40, 50, 60}}
	for i, c := range []struct{ at, size, v, fault int }{
		{0, 1, 1, 0}, {3, 1, 4, 0}, {2, 2, 3 + 4*256, 0}, {4, 4, 4244504319, 0}, {0, 4, 67305985, 0},
		{65536, 4, 673059850, 0}, {65540, 2, 50 + 60*256, 0}, {65541, 1, 60, 0},
		{8, 1, 0, impl.FaultBus}, {6, 4, 0, impl.FaultAlign}, {65540, 4, 0, impl.FaultBus}, {65535, 1, 0, impl.FaultBus},
		{131072, 1, 0, impl.FaultPort}, {131072, 2, 0, impl.FaultPort}, {131072, 3, 0, impl.FaultBus}, {131074, 4, 0, impl.FaultAlign}, {131074, 2, 0, impl.FaultBus},
		{-1, 2, 0, impl.FaultAlign}, {-2, 2, 0, impl.FaultBus}, {-4, 4, 0, impl.FaultBus},
		{1, 8, 0, impl.FaultBus}, {0, 8, 0, impl.FaultBus}, {0, 0, 0, impl.FaultBus}, {0, -1, 0, impl.FaultBus}, {0, -4, 0, impl.FaultBus},
	} {
		if v, fault := impl.Read(m, c.at, c.size); v != c.v || fault != c.fault {
			t.Errorf("case %d: read at %d of %d gives %d, %d", i, c.at, c.size, v, fault)
		}
	}
}

// TestReadAndWriteAsTold holds both against the document's words at every edge, with the greatest memory and small ones.
func TestReadAndWriteAsTold(t *testing.T) {
	oneLeft := greatestMem()
	oneLeft.Out = oneLeft.Out[:impl.MaxOut-1]
	mems := []impl.Mem{{}, someMem(), {Flash: numbered(3, 1), Ram: numbered(1, 9)}, greatestMem(), oneLeft}
	for k, m := range mems {
		before := cloneMem(m)
		for _, at := range edgeAddresses(m) {
			for _, size := range []int{-4, -1, 0, 1, 2, 3, 4, 5, 8} {
				wantValue, wantFault := readAsTold(m, at, size)
				if v, fault := impl.Read(m, at, size); v != wantValue || fault != wantFault {
					t.Fatalf("memory %d: read at %d of %d gives %d, %d", k, at, size, v, fault)
				}
				want, wantFault := writeAsTold(m, at, size, -1234567891)
				if got, fault := impl.Write(m, at, size, -1234567891); fault != wantFault || !sameMem(got, want) {
					t.Fatalf("memory %d: write at %d of %d gives fault %d", k, at, size, fault)
				}
				if !sameMem(m, before) {
					t.Fatalf("memory %d: the argument is changed at %d of %d", k, at, size)
				}
			}
		}
	}
}

// TestReadGivesWhatWriteWrote is promise 1 at values of all kinds.
func TestReadGivesWhatWriteWrote(t *testing.T) {
	values := []int{0, 1, 127, 128, 255, 256, 65535, 65536, 16909060, 2147483647, 2147483648, 4294967295, 4294967296, 4294967297, 1<<40 + 77, -1, -2, -256, -65537, -4294967296, -4294967299, math.MaxInt, math.MinInt, math.MinInt + 5}
	spans := []struct{ size, mask int }{{1, 255}, {2, 65535}, {4, 4294967295}}
	for _, m := range []impl.Mem{someMem(), greatestMem()} {
		for _, span := range spans {
			for _, at := range []int{impl.RamBase, impl.RamBase + 4, impl.RamBase + len(m.Ram) - len(m.Ram)%span.size - span.size} {
				for _, v := range values {
					got, fault := impl.Write(m, at, span.size, v)
					if fault != 0 {
						t.Fatalf("write at %d of %d: fault %d", at, span.size, fault)
					}
					if back, fault := impl.Read(got, at, span.size); fault != 0 || back != v&span.mask {
						t.Errorf("write at %d of %d bytes of %d, read gives %d, %d", at, span.size, v, back, fault)
					}
					onlyThere(t, m, got, at-impl.RamBase, span.size)
				}
			}
		}
	}
}

// onlyThere says what a write changed beside its own bytes.
func onlyThere(t *testing.T, m impl.Mem, got impl.Mem, from int, size int) {
	t.Helper()
	if len(got.Ram) != len(m.Ram) || string(got.Flash) != string(m.Flash) || string(got.Out) != string(m.Out) {
		t.Fatalf("a write in Ram changed a length, Flash or Out")
	}
	for i := range m.Ram {
		if (i < from || i >= from+size) && got.Ram[i] != m.Ram[i] {
			t.Errorf("a write of %d bytes at %d changed byte %d", size, from, i)
		}
	}
}

func TestWriteAtPort(t *testing.T) {
	m := someMem()
	for _, size := range []int{1, 2, 4} {
		for _, c := range []struct {
			v    int
			want byte
		}{{65, 65}, {256 + 66, 66}, {-1, 255}, {-256, 0}, {1<<40 + 3, 3}} {
			got, fault := impl.Write(m, impl.Port, size, c.v)
			if fault != 0 || string(got.Out) != string(someMem().Out)+string([]byte{c.want}) {
				t.Errorf("put out %d by %d bytes: %v, %d", c.v, size, got.Out, fault)
			}
			if string(got.Flash) != string(m.Flash) || string(got.Ram) != string(m.Ram) {
				t.Errorf("put out %d by %d bytes changes more than Out", c.v, size)
			}
		}
	}
	if !sameMem(m, someMem()) || m.Out[:4][3] != someMem().Out[:4][3] {
		t.Errorf("the byte is put into the room behind the argument's Out")
	}
	m.Out = make([]byte, impl.MaxOut-1)
	last, fault := impl.Write(m, impl.Port, 4, 9)
	if fault != 0 || len(last.Out) != impl.MaxOut || last.Out[impl.MaxOut-1] != 9 {
		t.Errorf("the last byte that Out takes: %d", fault)
	}
	for _, size := range []int{1, 2, 4} {
		if got, fault := impl.Write(last, impl.Port, size, 9); fault != impl.FaultPort || !sameMem(got, last) {
			t.Errorf("Out is full: %d", fault)
		}
	}
}

func TestFaultOfMemoryThatIsNotValid(t *testing.T) {
	for i, m := range badMems() {
		before := cloneMem(m)
		for _, at := range []int{0, 1, impl.RamBase, impl.RamBase + 1, impl.Port, impl.Port + 1, -1, 40000, math.MaxInt, math.MinInt} {
			for _, size := range []int{-1, 0, 1, 2, 3, 4} {
				if v, fault := impl.Read(m, at, size); v != 0 || fault != impl.FaultBus {
					t.Errorf("memory %d: read at %d of %d gives %d, %d", i, at, size, v, fault)
				}
				if got, fault := impl.Write(m, at, size, 7); fault != impl.FaultBus || !sameMem(got, before) {
					t.Errorf("memory %d: write at %d of %d gives %d", i, at, size, fault)
				}
			}
		}
		if !sameMem(m, before) {
			t.Errorf("memory %d is changed", i)
		}
	}
}

// TestWriteSharesNothing fills the answer and the room behind its lists, and looks whether anything else changes.
func TestWriteSharesNothing(t *testing.T) {
	for _, c := range []struct{ at, size int }{{impl.RamBase, 4}, {impl.Port, 1}, {0, 1}, {0, 3}, {impl.RamBase + 1, 2}, {99999, 1}} {
		m := someMem()
		whole := m.Flash[:cap(m.Flash)]
		before := string(whole)
		got, _ := impl.Write(m, c.at, c.size, 5)
		want := cloneMem(got)
		for i, b := range [][]byte{got.Flash, got.Ram, got.Out} {
			full := b[:cap(b)]
			for k := range full {
				full[k] ^= 255
			}
			now := []string{string(got.Flash), string(got.Ram), string(got.Out)}
			for k, old := range [][]byte{want.Flash, want.Ram, want.Out} {
				if k != i && now[k] != string(old) {
					t.Errorf("write at %d: list %d shares memory with list %d", c.at, i, k)
				}
			}
			for k := range full {
				full[k] ^= 255
			}
		}
		for _, b := range [][]byte{got.Flash, got.Ram, got.Out} {
			clear(b[:cap(b)])
		}
		if string(whole) != before {
			t.Errorf("write at %d: the answer shares memory with the argument", c.at)
		}
	}
}

func TestEmptyMemory(t *testing.T) {
	for _, m := range []impl.Mem{{}, {Flash: []byte{}, Ram: []byte{}, Out: []byte{}}} {
		for _, at := range []int{0, impl.RamBase} {
			for _, size := range []int{1, 2, 4} {
				if v, fault := impl.Read(m, at, size); v != 0 || fault != impl.FaultBus {
					t.Errorf("read at %d of %d gives %d, %d", at, size, v, fault)
				}
				if got, fault := impl.Write(m, at, size, 1); fault != impl.FaultBus || !sameMem(got, m) {
					t.Errorf("write at %d of %d gives %d", at, size, fault)
				}
			}
		}
		if got, fault := impl.Write(m, impl.Port, 2, 300); fault != 0 || string(got.Out) != "\x2c" || len(got.Ram)+len(got.Flash) != 0 {
			t.Errorf("put out: %v %d", got, fault)
		}
	}
}
