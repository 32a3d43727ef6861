package impl

import "math/bits"

const MaxRegions = 8
const Grain = 32

const ForRead = 1
const ForWrite = 2
const ForExec = 3

const addressEnd = 262144
const leastLog = 5
const greatestLog = 14
const leastPartedLog = 8
const partCount = 8
const partLog = 3

// Region is described in the document.
type Region struct {
	Base  int
	Log   int
	Off   int
	Read  bool
	Write bool
	Exec  bool
}

// partSet has a bit for each of the eight parts of a region, 1 when the region has its addresses.
// A region too small for Off is seen as eight parts as well: none of them can be taken out.
type partSet uint8

// best keeps, of what it is offered, what no other is better than.
type best[T any] struct {
	better func(a T, b T) bool
	found  bool
	value  T
}

// RegionOk says whether a region is valid.
func RegionOk(r Region) bool {
	if r.Log < leastLog || r.Log > greatestLog {
		return false
	}
	if r.Off < 0 || r.Off > 255 || r.Off != 0 && r.Log < leastPartedLog {
		return false
	}
	length := 1 << r.Log
	return r.Base >= 0 && r.Base%length == 0 && r.Base <= addressEnd-length
}

// Allowed says whether regions allow something.
func Allowed(rs []Region, at int, size int, what int) bool {
	if !isWidth(size) || !regionsOk(rs) {
		return false
	}
	for i := range size {
		if !addressAllowed(rs, at+i, what) {
			return false
		}
	}
	return true
}

// Cover covers addresses with regions.
func Cover(from int, size int) ([]Region, bool) {
	if !isGrained(from) || !isGrained(size) || size > addressEnd-from {
		return nil, false
	}
	var rs []Region
	end := from + size
	for at := from; at < end; {
		r := widestRegion(at, end)
		rs = append(rs, r)
		at += addressCount(r)
	}
	return rs, true
}

// regionsOk says whether regions may stand together in a list that is asked.
func regionsOk(rs []Region) bool {
	if len(rs) > MaxRegions {
		return false
	}
	for _, r := range rs {
		if !RegionOk(r) {
			return false
		}
	}
	return true
}

// addressAllowed asks the last region that has the address, and no other.
func addressAllowed(rs []Region, at int, what int) bool {
	for i := len(rs) - 1; i >= 0; i-- {
		if regionHas(rs[i], at) {
			return regionAllows(rs[i], what)
		}
	}
	return false
}

// regionAllows says whether a region gives a right; a number that names none is never given.
func regionAllows(r Region, what int) bool {
	switch what {
	case ForRead:
		return r.Read
	case ForWrite:
		return r.Write
	case ForExec:
		return r.Exec
	}
	return false
}

// regionHas says whether a valid region has an address.
func regionHas(r Region, at int) bool {
	if at < r.Base || at-r.Base >= 1<<r.Log {
		return false
	}
	return partsOf(r).has((at - r.Base) >> (r.Log - partLog))
}

// addressCount gives the number of addresses that a valid region has.
func addressCount(r Region) int {
	return bits.OnesCount8(uint8(partsOf(r))) << (r.Log - partLog)
}

// partsOf gives the parts of a valid region that are not taken out.
func partsOf(r Region) partSet {
	return ^partSet(r.Off)
}

// has says whether part i is in the set.
func (s partSet) has(i int) bool {
	return s>>i&1 == 1
}

// with gives the set with part i in it.
func (s partSet) with(i int) partSet {
	return s | 1<<i
}

// offer takes a value when it is the first one or better than what is kept.
func (b *best[T]) offer(v T) {
	if !b.found || b.better(v, b.value) {
		b.found = true
		b.value = v
	}
}

// isGrained says whether a number is a whole number of grains, 0 or more.
func isGrained(n int) bool {
	return n >= 0 && n%Grain == 0
}

// coversMore is the order in which a cover chooses its regions.
func coversMore(a Region, b Region) bool {
	if addressCount(a) != addressCount(b) {
		return addressCount(a) > addressCount(b)
	}
	return a.Log < b.Log
}

// widestRegion gives the region that a cover takes for the address at. There is always one:
// at and end are whole grains, so a region of one grain fits.
func widestRegion(at int, end int) Region {
	widest := best[Region]{better: coversMore}
	for log := leastLog; log <= greatestLog; log++ {
		offerRuns(&widest, at, end, log)
	}
	return widest.value
}

// offerRuns offers all valid regions of one Log that have a run of addresses from at on, and none from end on.
func offerRuns(widest *best[Region], at int, end int, log int) {
	part := 1 << (log - partLog)
	base := at - at%(1<<log)
	if at%part != 0 {
		return
	}
	run := partSet(0)
	for i := (at - base) / part; i < partCount && base+(i+1)*part <= end; i++ {
		run = run.with(i)
		r := Region{Base: base, Log: log, Off: int(^run)}
		if RegionOk(r) {
			widest.offer(r)
		}
	}
}
