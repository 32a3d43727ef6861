package tests

import (
	"math"
	"strings"
	"testing"

	"loop.example/s01513/impl"
)

// fieldsAsTold says which fields each Op uses, position by position, as the document's table does.
var fieldsAsTold = strings.Fields("none stop DI DI DA DA DAI DA DA DA DA DA DA DA DAI DAI DAI DAI DAI DAI I DI DI I I return")

// usesAsTold gives the letters of the fields of an Op, and whether there is such an Op.
func usesAsTold(op int) (string, bool) {
	if op < 1 || op > 25 {
		return "", false
	}
	if op == 1 || op == 25 {
		return "", true
	}
	return fieldsAsTold[op], true
}

func insAsTold(in impl.Ins) bool {
	uses, ok := usesAsTold(in.Op)
	if !ok || in.D < 0 || in.D > 7 || in.A < 0 || in.A > 7 || in.Imm < 0 || in.Imm > 65535 {
		return false
	}
	return (in.D == 0 || strings.Contains(uses, "D")) && (in.A == 0 || strings.Contains(uses, "A")) && (in.Imm == 0 || strings.Contains(uses, "I"))
}

// wordAsTold puts the fields in their places by multiplication.
func wordAsTold(in impl.Ins, between int) int {
	return in.Op*67108864 + in.D*8388608 + in.A*1048576 + between*65536 + in.Imm
}

// TestEncodeOfEveryOp is promise 4 from the side of the instruction: each Op, with fields used and not, at their ends and beyond.
func TestEncodeOfEveryOp(t *testing.T) {
	regs := []int{-8, -1, 0, 1, 4, 7, 8, 15, math.MaxInt, math.MinInt}
	imms := []int{-65536, -32768, -1, 0, 1, 4, 255, 256, 32767, 32768, 65534, 65535, 65536, 65537, 1 << 20, 1 << 32, math.MaxInt, math.MinInt}
	good := 0
	for op := -2; op <= 70; op++ {
		for _, d := range regs {
			for _, a := range regs {
				for _, imm := range imms {
					in := impl.Ins{Op: op, D: d, A: a, Imm: imm}
					word, ok := impl.Encode(in)
					if ok != insAsTold(in) {
						t.Fatalf("encode of %v says %v", in, ok)
					}
					if !ok && word != 0 {
						t.Fatalf("encode of %v, which is none, gives %d", in, word)
					}
					if !ok {
						continue
					}
					good++
					if word != wordAsTold(in, 0) {
						t.Fatalf("encode of %v gives %d", in, word)
					}
					if back, ok := impl.Decode(word); !ok || back != in {
						t.Fatalf("decode of encode of %v gives %v, %v", in, back, ok)
					}
				}
			}
		}
	}
	// Four registers and nine numbers of the lists are fields: 2 Ops use none, 3 one number, 4 D and a number, 9 D and A, 7 all.
	if want := 2 + 3*9 + 4*4*9 + 9*4*4 + 7*4*4*9; good != want {
		t.Errorf("%d instructions were tried, not %d", good, want)
	}
	for _, op := range []int{math.MinInt, math.MaxInt, 1 << 32, 1<<32 + 1, -1 << 32, 64 + 1, 1<<38 + 2, -63} {
		if word, ok := impl.Encode(impl.Ins{Op: op}); ok || word != 0 {
			t.Errorf("encode of the Op %d gives %d, %v", op, word, ok)
		}
	}
}

// TestDecodeOfEveryOp is promise 4 from the side of the word: all of Op, D, A and the bits between, and the ends of Imm.
func TestDecodeOfEveryOp(t *testing.T) {
	for op := range 64 {
		for d := range 8 {
			for a := range 8 {
				for between := range 16 {
					for _, imm := range []int{0, 1, 2, 255, 256, 32767, 32768, 65535} {
						in := impl.Ins{Op: op, D: d, A: a, Imm: imm}
						wantDecoded(t, wordAsTold(in, between), in, between == 0 && insAsTold(in))
					}
				}
			}
		}
	}
}

// wantDecoded asks for the instruction of a word, and of the numbers that are equal to it modulo 2^32 but are no words.
func wantDecoded(t *testing.T, word int, in impl.Ins, good bool) {
	t.Helper()
	got, ok := impl.Decode(word)
	if ok != good || good && got != in || !good && got != (impl.Ins{}) {
		t.Fatalf("decode of %d (%v) gives %v, %v", word, in, got, ok)
	}
	if again, ok := impl.Encode(got); ok != good || good && again != word {
		t.Fatalf("encode of decode of %d gives %d, %v", word, again, ok)
	}
	for _, no := range []int{word - 4294967296, word + 4294967296, -word - 1, word | math.MinInt, word + 1<<62} {
		if got, ok := impl.Decode(no); ok || got != (impl.Ins{}) {
			t.Fatalf("decode of %d, no word, gives %v, %v", no, got, ok)
		}
	}
}

func TestDecodeInPlainNumbers(t *testing.T) {
	for i, c := range []struct {
		word int
		in   impl.Ins
		ok   bool
	}{
		{0x04000000, impl.Ins{Op: impl.OpStop}, true},
		{0x64000000, impl.Ins{Op: impl.OpReturn}, true},
		{0x08000007, impl.Ins{Op: impl.OpSet, Imm: 7}, true},
		{0x0B80FFFF, impl.Ins{Op: impl.OpSet, D: 7, Imm: 65535}, true},
		{0x13D00000, impl.Ins{Op: impl.OpMove, D: 7, A: 5}, true},
		{0x11D00000, impl.Ins{Op: impl.OpMove, D: 3, A: 5}, true},
		{0x11D00001, impl.Ins{}, false},
		{0x1BF08000, impl.Ins{Op: impl.OpNear, D: 7, A: 7, Imm: 32768}, true},
		{0x1BF18000, impl.Ins{}, false}, {0x1BF28000, impl.Ins{}, false}, {0x1BF48000, impl.Ins{}, false}, {0x1BF88000, impl.Ins{}, false},
		{0x50007FFF, impl.Ins{Op: impl.OpJump, Imm: 32767}, true},
		{0x50807FFF, impl.Ins{}, false}, {0x50107FFF, impl.Ins{}, false},
		{0x5C00FFFF, impl.Ins{Op: impl.OpCall, Imm: 65535}, true},
		{0x6000FFFF, impl.Ins{Op: impl.OpImport, Imm: 65535}, true},
		{0x68000000, impl.Ins{}, false}, {0xFC000000, impl.Ins{}, false}, {0xFFFFFFFF, impl.Ins{}, false}, {0x80000000, impl.Ins{}, false}, {0x84000000, impl.Ins{}, false},
		{0, impl.Ins{}, false}, {1, impl.Ins{}, false}, {-1, impl.Ins{}, false}, {0x100000000, impl.Ins{}, false}, {0x104000000, impl.Ins{}, false}, {0x04000000 - 0x100000000, impl.Ins{}, false},
		{math.MaxInt, impl.Ins{}, false}, {math.MinInt, impl.Ins{}, false}, {math.MinInt + 0x04000000, impl.Ins{}, false},
	} {
		if in, ok := impl.Decode(c.word); in != c.in || ok != c.ok {
			t.Errorf("case %d: decode of %#x gives %v, %v", i, c.word, in, ok)
		}
	}
}
