package tests

import (
	"math"
	"slices"
	"testing"

	"loop.example/s01513/impl"
)

const lastAddress = 262143

// hasAsTold says whether a valid region has an address, in the document's words.
func hasAsTold(r impl.Region, at int) bool {
	length := 1
	for range r.Log {
		length *= 2
	}
	if at < r.Base || at >= r.Base+length {
		return false
	}
	if r.Log < 8 {
		return true
	}
	for i := range 8 {
		from := r.Base + i*length/8
		if at >= from && at < from+length/8 {
			return r.Off/[]int{1, 2, 4, 8, 16, 32, 64, 128}[i]%2 == 0
		}
	}
	return false
}

func rightAsTold(r impl.Region, what int) bool {
	return what == impl.ForRead && r.Read || what == impl.ForWrite && r.Write || what == impl.ForExec && r.Exec
}

// allowedAsTold looks at all regions, and keeps what the last one that has the address says.
func allowedAsTold(rs []impl.Region, at int, size int, what int) bool {
	for i := range size {
		said := false
		for _, r := range rs {
			if hasAsTold(r, at+i) {
				said = rightAsTold(r, what)
			}
		}
		if !said {
			return false
		}
	}
	return true
}

func TestRegionOk(t *testing.T) {
	for log := 5; log <= 14; log++ {
		length := 1 << log
		for _, c := range []struct {
			base, off int
			ok        bool
		}{
			{0, 0, true}, {length, 0, true}, {3 * length, 0, true}, {262144 - length, 0, true},
			{262144, 0, false}, {262144 + length, 0, false}, {-length, 0, false}, {length / 2, 0, false}, {length + 1, 0, false}, {length - 1, 0, false}, {length + 16, 0, false},
			{0, 1, log >= 8}, {0, 128, log >= 8}, {length, 255, log >= 8}, {0, 256, false}, {0, -1, false}, {0, -256, false}, {0, math.MaxInt, false}, {0, math.MinInt, false},
			{math.MaxInt, 0, false}, {math.MinInt, 0, false}, {math.MaxInt - length + 1, 0, false}, {1 << 62, 0, false},
		} {
			for _, rights := range []bool{false, true} {
				r := impl.Region{Base: c.base, Log: log, Off: c.off, Read: rights, Write: rights, Exec: rights}
				if impl.RegionOk(r) != c.ok {
					t.Errorf("region %v", r)
				}
			}
		}
	}
	for _, log := range []int{4, 15, 3, 0, -1, 18, 63, 64, 200, math.MaxInt, math.MinInt} {
		for _, off := range []int{0, 1, 255} {
			if impl.RegionOk(impl.Region{Log: log, Off: off}) {
				t.Errorf("a region of Log %d is taken", log)
			}
		}
	}
}

// TestAllowedAtEachLog looks at one region of each Log, at the ends of it and of its parts.
func TestAllowedAtEachLog(t *testing.T) {
	for log := 5; log <= 14; log++ {
		length := 1 << log
		offs := []int{0}
		if log >= 8 {
			offs = []int{0, 1, 2, 128, 129, 85, 170, 127, 254, 255}
		}
		for _, base := range []int{0, length, 262144 - length} {
			for _, off := range offs {
				rs := []impl.Region{{Base: base, Log: log, Off: off, Write: true}}
				for part := 0; part <= 8; part++ {
					for d := -4; d <= 4; d++ {
						for _, size := range []int{1, 2, 4} {
							at := base + part*length/8 + d
							if impl.Allowed(rs, at, size, impl.ForWrite) != allowedAsTold(rs, at, size, impl.ForWrite) {
								t.Fatalf("region %v: writing at %d of %d", rs[0], at, size)
							}
							if impl.Allowed(rs, at, size, impl.ForRead) || impl.Allowed(rs, at, size, impl.ForExec) {
								t.Fatalf("region %v allows more than writing at %d", rs[0], at)
							}
						}
					}
				}
			}
		}
	}
}

// manyRegions lie upon each other, eight of them, with other rights and other parts taken out.
func manyRegions() []impl.Region {
	return []impl.Region{
		{Base: 0, Log: 10, Read: true, Write: true, Exec: true},
		{Base: 0, Log: 9, Off: 0b10100101, Read: true},
		{Base: 256, Log: 8, Off: 0b00001111, Write: true},
		{Base: 320, Log: 6, Exec: true},
		{Base: 352, Log: 5},
		{Base: 512, Log: 7, Read: true, Exec: true},
		{Base: 512, Log: 9, Off: 0b11110001, Write: true, Exec: true},
		{Base: 0, Log: 8, Off: 0b11111110, Exec: true},
	}
}

// TestAllowedByTheLast is promise 3: at all addresses, in several orders of the list.
func TestAllowedByTheLast(t *testing.T) {
	rs := manyRegions()
	for turn := range 9 {
		for at := -5; at < 1060; at++ {
			for _, size := range []int{1, 2, 4} {
				for _, what := range []int{impl.ForRead, impl.ForWrite, impl.ForExec} {
					if impl.Allowed(rs, at, size, what) != allowedAsTold(rs, at, size, what) {
						t.Fatalf("turn %d: at %d of %d for %d", turn, at, size, what)
					}
				}
			}
		}
		if turn < 7 {
			rs = append(rs[1:], rs[0])
		} else {
			slices.Reverse(rs)
		}
	}
}

func TestAllowedInPlainWords(t *testing.T) {
	open := impl.Region{Log: 8, Read: true, Write: true, Exec: true}
	shut := impl.Region{Log: 8, Off: 0b11111101}
	for i, c := range []struct {
		rs             []impl.Region
		at, size, what int
		ok             bool
	}{
		{[]impl.Region{open, shut}, 31, 1, impl.ForRead, true}, {[]impl.Region{open, shut}, 32, 1, impl.ForRead, false}, {[]impl.Region{open, shut}, 63, 1, impl.ForExec, false}, {[]impl.Region{open, shut}, 64, 1, impl.ForWrite, true},
		{[]impl.Region{open, shut}, 30, 4, impl.ForRead, false}, {[]impl.Region{open, shut}, 28, 4, impl.ForRead, true}, {[]impl.Region{open, shut}, 62, 4, impl.ForRead, false},
		{[]impl.Region{shut, open}, 30, 4, impl.ForRead, true}, {[]impl.Region{shut, open}, 32, 4, impl.ForExec, true},
		{[]impl.Region{open}, 252, 4, impl.ForRead, true}, {[]impl.Region{open}, 253, 4, impl.ForRead, false}, {[]impl.Region{open}, 255, 2, impl.ForRead, false}, {[]impl.Region{open}, -1, 2, impl.ForRead, false}, {[]impl.Region{open}, 1, 2, impl.ForRead, true},
		{[]impl.Region{{Log: 5, Read: true}, {Base: 32, Log: 5, Read: true, Write: true}}, 30, 4, impl.ForRead, true}, {[]impl.Region{{Log: 5, Read: true}, {Base: 32, Log: 5, Read: true, Write: true}}, 31, 2, impl.ForWrite, false},
		{nil, 0, 1, impl.ForRead, false}, {[]impl.Region{}, 0, 4, impl.ForExec, false},
		{[]impl.Region{{Base: 245760, Log: 14, Exec: true}}, 262140, 4, impl.ForExec, true}, {[]impl.Region{{Base: 245760, Log: 14, Exec: true}}, 262141, 4, impl.ForExec, false},
	} {
		if impl.Allowed(c.rs, c.at, c.size, c.what) != c.ok {
			t.Errorf("case %d: %v at %d of %d for %d", i, c.rs, c.at, c.size, c.what)
		}
	}
}

func TestAllowedOfWrongArguments(t *testing.T) {
	open := impl.Region{Log: 14, Read: true, Write: true, Exec: true}
	for _, what := range []int{-1, 0, 4, 5, math.MaxInt, math.MinInt} {
		if impl.Allowed([]impl.Region{open}, 0, 1, what) {
			t.Errorf("allowed for %d", what)
		}
	}
	for _, size := range []int{-4, -1, 0, 3, 5, 8, 16, math.MaxInt, math.MinInt} {
		if impl.Allowed([]impl.Region{open}, 0, size, impl.ForRead) {
			t.Errorf("allowed with size %d", size)
		}
	}
	for _, at := range []int{math.MinInt, math.MinInt + 1, -16384, -4, -3, 16384, 1 << 32, math.MaxInt - 3, math.MaxInt - 1, math.MaxInt} {
		for _, size := range []int{1, 2, 4} {
			if impl.Allowed([]impl.Region{open}, at, size, impl.ForRead) {
				t.Errorf("allowed at %d", at)
			}
		}
	}
	bad := []impl.Region{{}, {Log: 4}, {Log: 15}, {Log: -1}, {Log: math.MaxInt}, {Log: math.MinInt}, {Log: 7, Off: 1}, {Log: 8, Off: 256}, {Log: 8, Off: -1}, {Base: 16, Log: 5}, {Base: 262144, Log: 5}, {Base: -32, Log: 5}, {Base: math.MinInt, Log: 5}}
	for _, r := range bad {
		for _, rs := range [][]impl.Region{{r}, {r, open}, {open, r}, {open, r, open}} {
			if impl.Allowed(rs, 0, 1, impl.ForRead) {
				t.Errorf("allowed with %v in the list", r)
			}
		}
	}
	rs := slices.Repeat([]impl.Region{open}, impl.MaxRegions)
	if !impl.Allowed(rs, 0, 4, impl.ForExec) {
		t.Errorf("not allowed with MaxRegions regions")
	}
	if impl.Allowed(append(rs, open), 0, 4, impl.ForExec) {
		t.Errorf("allowed with more than MaxRegions regions")
	}
}

func TestAllowedWritesNothing(t *testing.T) {
	rs := manyRegions()
	impl.Allowed(rs, 300, 4, impl.ForRead)
	if !slices.Equal(rs, manyRegions()) {
		t.Errorf("the list is changed")
	}
}

// grainsOf gives the addresses of a region in steps of Grain, by asking for each; parts are never smaller.
func grainsOf(r impl.Region) []int {
	var list []int
	for at := r.Base; at < r.Base+1<<r.Log; at += impl.Grain {
		if hasAsTold(r, at) {
			list = append(list, at)
		}
	}
	return list
}

// everyRegion gives, for each start in steps of Grain below 32768, all valid regions whose addresses run from it without a gap.
func everyRegion() map[int][]impl.Region {
	starts := map[int][]impl.Region{}
	for log := 5; log <= 14; log++ {
		for base := 0; base < 32768; base += 1 << log {
			for off := range 256 {
				r := impl.Region{Base: base, Log: log, Off: off}
				if log < 8 && off != 0 {
					continue
				}
				if g := grainsOf(r); len(g) > 0 && g[len(g)-1]-g[0] == impl.Grain*(len(g)-1) {
					starts[g[0]] = append(starts[g[0]], r)
				}
			}
		}
	}
	return starts
}

// coverAsTold tries every region for each start.
func coverAsTold(starts map[int][]impl.Region, from int, size int) []impl.Region {
	var rs []impl.Region
	for at := from; at < from+size; {
		var first impl.Region
		most := 0
		for _, r := range starts[at] {
			n := impl.Grain * len(grainsOf(r))
			if at+n <= from+size && (n > most || n == most && r.Log < first.Log) {
				first, most = r, n
			}
		}
		rs = append(rs, first)
		at += most
	}
	return rs
}

// TestCoverTakesTheRightRegionFirst tries every start in the first bytes, and starts beside greater borders.
func TestCoverTakesTheRightRegionFirst(t *testing.T) {
	starts := everyRegion()
	for _, near := range []int{0, 224, 480, 992, 2016, 4064, 8160, 16352, 16384} {
		for from := max(0, near-96); from <= near+96; from += impl.Grain {
			for _, size := range []int{0, 32, 64, 96, 128, 160, 192, 224, 256, 288, 320, 352, 480, 512, 544, 768, 1024, 1056, 1280, 2048, 2592, 4096, 8000, 8192, 10240, 14336, 14368, 16288} {
				if from+size > 32768 {
					continue
				}
				want := coverAsTold(starts, from, size)
				if rs, ok := impl.Cover(from, size); !ok || !slices.Equal(rs, want) {
					t.Fatalf("cover of %d from %d: %v %v, not %v", size, from, rs, ok, want)
				}
			}
		}
	}
}

func TestCoverInPlainNumbers(t *testing.T) {
	for i, c := range []struct {
		from, size int
		want       []impl.Region
	}{
		{0, 0, nil}, {262144, 0, nil}, {262112, 0, nil},
		{0, 32, []impl.Region{{Log: 5}}},
		{0, 128, []impl.Region{{Log: 7}}},
		{128, 128, []impl.Region{{Base: 128, Log: 7}}},
		{32, 224, []impl.Region{{Log: 8, Off: 1}}},
		{64, 64, []impl.Region{{Base: 64, Log: 6}}},
		{64, 96, []impl.Region{{Log: 8, Off: 0b11100011}}},
		{192, 128, []impl.Region{{Log: 9, Off: 0b11100111}}},
		{224, 64, []impl.Region{{Base: 224, Log: 5}, {Base: 256, Log: 5}}},
		{262112, 32, []impl.Region{{Base: 262112, Log: 5}}},
		{262080, 64, []impl.Region{{Base: 262080, Log: 6}}},
		{245760, 16384, []impl.Region{{Base: 245760, Log: 14}}},
		{243712, 18432, []impl.Region{{Base: 243712, Log: 11}, {Base: 245760, Log: 14}}},
		{65536, 544, []impl.Region{{Base: 65536, Log: 9}, {Base: 66048, Log: 5}}},
		{0, 14336, []impl.Region{{Log: 14, Off: 128}}},
	} {
		if rs, ok := impl.Cover(c.from, c.size); !ok || !slices.Equal(rs, c.want) {
			t.Errorf("case %d: cover of %d from %d: %v %v", i, c.size, c.from, rs, ok)
		}
	}
}

// TestCoverHasJustTheAddresses is promise 2: every grain is had once if it was asked for, else never.
func TestCoverHasJustTheAddresses(t *testing.T) {
	for _, c := range []struct{ from, size int }{
		{0, 0}, {0, 32}, {32, 32}, {32, 992}, {96, 4000}, {224, 64}, {16352, 64}, {65536, 16384}, {131072, 32}, {131040, 96}, {32, 262112}, {0, 262144}, {262112, 32}, {245728, 16416}, {261888, 256}, {100000, 99968}, {31 * 32, 33 * 32 * 5},
	} {
		rs, ok := impl.Cover(c.from, c.size)
		if !ok {
			t.Errorf("no cover of %d from %d", c.size, c.from)
		}
		times := make([]int, 262144/impl.Grain)
		for _, r := range rs {
			if !impl.RegionOk(r) || r.Read || r.Write || r.Exec {
				t.Errorf("cover of %d from %d has the region %v", c.size, c.from, r)
				continue
			}
			for _, at := range grainsOf(r) {
				times[at/impl.Grain]++
			}
		}
		for i, n := range times {
			asked := i*impl.Grain >= c.from && i*impl.Grain < c.from+c.size
			if asked && n != 1 || !asked && n != 0 {
				t.Errorf("cover of %d from %d has %d %d times", c.size, c.from, i*impl.Grain, n)
				break
			}
		}
	}
}

// TestCoverMakesAsManyAsItNeeds: Cover, unlike Allowed, knows no MaxRegions.
func TestCoverMakesAsManyAsItNeeds(t *testing.T) {
	rs, ok := impl.Cover(0, 262144)
	if !ok || len(rs) != 16 {
		t.Fatalf("the whole: %d regions, %v", len(rs), ok)
	}
	for i, r := range rs {
		if r != (impl.Region{Base: 16384 * i, Log: 14}) {
			t.Errorf("region %d of the whole is %v", i, r)
		}
	}
	if rs, ok := impl.Cover(32, 262144-64); !ok || len(rs) <= impl.MaxRegions {
		t.Errorf("all but the ends: %d regions, %v", len(rs), ok)
	}
}

// TestCoverAgreesWithAllowed asks Allowed for the addresses at both ends of each region of a cover.
func TestCoverAgreesWithAllowed(t *testing.T) {
	for from := 0; from <= 512; from += impl.Grain {
		for size := impl.Grain; size <= 1024; size += impl.Grain {
			rs, _ := impl.Cover(from, size)
			if len(rs) > impl.MaxRegions {
				continue
			}
			for i := range rs {
				rs[i].Read = true
			}
			for at := max(0, from-impl.Grain); at < from+size+impl.Grain; at += 31 {
				if impl.Allowed(rs, at, 1, impl.ForRead) != (at >= from && at < from+size) {
					t.Fatalf("cover of %d from %d: at %d", size, from, at)
				}
			}
		}
	}
}

func TestCoverOfWrongArguments(t *testing.T) {
	for _, c := range []struct{ from, size int }{
		{-32, 32}, {-32, 0}, {-1, 32}, {0, -32}, {64, -32}, {0, -1}, {-32, -32}, {16, 32}, {1, 32}, {31, 0}, {32, 16}, {32, 1}, {0, 31}, {33, 33},
		{0, 262176}, {32, 262144}, {262144, 32}, {262112, 64}, {262176, 0}, {262176, 32}, {lastAddress, 32},
		{math.MaxInt - 31, 32}, {math.MaxInt - 31, math.MaxInt - 31}, {32, math.MaxInt - 31}, {0, math.MaxInt - 31}, {math.MaxInt - 31, 0}, {math.MaxInt, 0}, {math.MaxInt, math.MaxInt},
		{math.MinInt, 0}, {math.MinInt, 32}, {0, math.MinInt}, {math.MinInt, math.MinInt}, {math.MinInt, math.MaxInt - 31}, {1 << 62, 1 << 62}, {1<<62 + 32, 1 << 62},
	} {
		if rs, ok := impl.Cover(c.from, c.size); ok || len(rs) != 0 {
			t.Errorf("cover of %d from %d: %v %v", c.size, c.from, rs, ok)
		}
	}
}

// TestCoverGivesNewMemory changes one answer, and asks again.
func TestCoverGivesNewMemory(t *testing.T) {
	one, _ := impl.Cover(96, 4000)
	want := slices.Clone(one)
	for i := range one {
		one[i] = impl.Region{Base: -1}
	}
	if again, ok := impl.Cover(96, 4000); !ok || !slices.Equal(again, want) {
		t.Errorf("the second answer: %v", again)
	}
}
