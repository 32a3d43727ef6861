package impl

import "bytes"

const MaxFlash = 16384
const MaxRam = 16384
const MaxOut = 5000
const RamBase = 65536
const Port = 131072

const FaultAlign = 1
const FaultBus = 2
const FaultFlash = 3
const FaultPort = 4
const FaultRegion = 5
const FaultDecode = 6
const FaultDepth = 7
const FaultImport = 8

// Mem is described in the document.
type Mem struct {
	Flash []byte
	Ram   []byte
	Out   []byte
}

// MemOk says whether a memory is valid.
func MemOk(m Mem) bool {
	return len(m.Flash) <= MaxFlash && len(m.Ram) <= MaxRam && len(m.Out) <= MaxOut
}

// Read reads bytes.
func Read(m Mem, at int, size int) (int, int) {
	if fault := accessFault(m, at, size); fault != 0 {
		return 0, fault
	}
	if at == Port {
		return 0, FaultPort
	}
	if holds(m.Flash, 0, at, size) {
		return getBytes(m.Flash[at:], size), 0
	}
	if holds(m.Ram, RamBase, at, size) {
		return getBytes(m.Ram[at-RamBase:], size), 0
	}
	return 0, FaultBus
}

// Write writes bytes.
func Write(m Mem, at int, size int, v int) (Mem, int) {
	got := copyMem(m)
	fault := writeInto(&got, at, size, v)
	return got, fault
}

// writeInto writes into a memory that the caller owns; with a fault it changes nothing.
func writeInto(m *Mem, at int, size int, v int) int {
	if fault := writeFault(*m, at, size); fault != 0 {
		return fault
	}
	if at == Port {
		m.Out = append(m.Out, byte(v))
	} else {
		putBytes(m.Ram[at-RamBase:], size, v)
	}
	return 0
}

// accessFault gives the faults that reading and writing have in common; they come ahead of all others.
func accessFault(m Mem, at int, size int) int {
	if !MemOk(m) || !isWidth(size) {
		return FaultBus
	}
	if at%size != 0 {
		return FaultAlign
	}
	return 0
}

// writeFault gives the fault of a write, 0 when it can be done.
func writeFault(m Mem, at int, size int) int {
	if fault := accessFault(m, at, size); fault != 0 {
		return fault
	}
	if at == Port {
		return portFault(m)
	}
	if holds(m.Flash, 0, at, size) {
		return FaultFlash
	}
	if !holds(m.Ram, RamBase, at, size) {
		return FaultBus
	}
	return 0
}

// portFault gives the fault of one more byte of output.
func portFault(m Mem) int {
	if len(m.Out) >= MaxOut {
		return FaultPort
	}
	return 0
}

// isWidth says whether a number of bytes can be read or written at once.
func isWidth(size int) bool {
	return size == 1 || size == 2 || size == 4
}

// holds says whether size bytes at an address lie in bytes that begin at the address base.
// The sum of address and size is never formed: near the greatest int it would wrap round.
func holds(b []byte, base int, at int, size int) bool {
	return at >= base && at-base <= len(b)-size
}

// getBytes gives the number of the first size bytes.
func getBytes(b []byte, size int) int {
	v := 0
	switch size {
	case 4:
		v |= int(b[3])<<24 | int(b[2])<<16
		fallthrough
	case 2:
		v |= int(b[1]) << 8
		fallthrough
	case 1:
		v |= int(b[0])
	}
	return v
}

// putBytes puts the low size bytes of a number at the front of bytes that the caller owns.
func putBytes(b []byte, size int, v int) {
	switch size {
	case 4:
		b[3], b[2] = byte(v>>24), byte(v>>16)
		fallthrough
	case 2:
		b[1] = byte(v >> 8)
		fallthrough
	case 1:
		b[0] = byte(v)
	}
}

// copyMem gives a memory that shares nothing with the one it is made of.
func copyMem(m Mem) Mem {
	return Mem{Flash: bytes.Clone(m.Flash), Ram: bytes.Clone(m.Ram), Out: bytes.Clone(m.Out)}
}
