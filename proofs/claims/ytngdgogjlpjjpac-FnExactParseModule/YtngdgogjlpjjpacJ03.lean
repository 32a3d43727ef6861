import Derived.Test.YtngdgogjlpjjpacJ01
import Derived.Test.YtngdgogjlpjjpacJ02
import Derived.Laws.IdiomStrings
namespace Go.Proofs.Ytngdgogjlpjjpac
open Go.RowKit
set_option linter.unusedVariables false
set_option linter.unusedSimpArgs false
set_option maxRecDepth 100000

theorem run_digit (w : World) (d : Int) (h0 : 0 ≤ d) (h1 : d ≤ 255) : (convert 22 9 (.slice (some ⟨w.heap.size, 0, none⟩) 1 1)).run Try.prog (w.alloc (.cells #[.int .u8 d] 5)) = .ok (.string ⟨#[UInt8.ofNat d.toNat]⟩) (w.alloc (.cells #[.int .u8 d] 5)) := by
  have e : ((UInt8.ofNat d.toNat).toNat : Int) = d := by
    have : (UInt8.ofNat d.toNat).toNat = d.toNat % 256 := UInt8.toNat_ofNat'
    omega
  refine run_convert_bytes_back (P := Try.prog) (w.alloc (.cells #[.int .u8 d] 5)) 22 9 5 ⟨w.heap.size, 0, none⟩ 1 [UInt8.ofNat d.toNat] Try.underlying22 Try.underlying5 Try.underlying9 ?_
  intro j hj
  obtain rfl : j = 0 := by simp at hj; omega
  rw [addr_add, Blk.cell (Blk.new w _ _)]
  exact congrArg (fun z => some (Value.int .u8 z)) e.symm

set_option maxHeartbeats 1000000 in
theorem markText_any (k : Nat) (w : World) (hk : k ≤ 8388608) : Calls Try.prog 136 #[.int .i64 k] w fun e w' => ∃ s, e = .returned (.string s) ∧ s.size ≤ 8388610 ∧ Below w.heap.size w w' := by
  by_cases h0 : k = 0
  · subst h0
    go_enter Try.func136, Try.ntmps136
    go_wp2
    go_ret
    exact ⟨_, rfl, by decide, Below.refl _ _⟩
  have hk0 : 0 < (k : Int) := by omega
  go_enter Try.func136, Try.ntmps136
  go_wp2_with fail
  go_loopw [0, 3] (fun x o wr => ∃ (m : Nat) (s : ByteArray), x = .int .i64 m ∧ o = .string s ∧ s.size + m ≤ 8388608 ∧ Below w.heap.size w wr) (fun x _ _ => (intOf x).toNat)
  case atStart => exact ⟨k, ⟨#[]⟩, rfl, rfl, by show 0 + k ≤ _; omega, Below.refl _ _⟩
  case round =>
    obtain ⟨m, s, rfl, rfl, hm, hB⟩ := hrel
    clear hk hk0 h0
    by_cases hlt : 0 < m
    · have hlt' : 0 < (m : Int) := by omega
      have hcv := fun (W : World) => run_digit W (48 + (m : Int) % 10) (by omega) (by omega)
      have HB := hide hB
      have hBs := hB.size
      clear hB
      go_wp2
      go_roundw
      case rel =>
        refine ⟨m / 10, _, by go_num, rfl, ?_, HB.out.alloc hBs _⟩
        simp [ByteArray.size_append]
        have e1 : (⟨#[48 + UInt8.ofNat (m % 10)]⟩ : ByteArray).size = 1 := rfl
        omega
      case measure => simp [intOf]; omega
    · obtain rfl : m = 0 := by omega
      go_wp2
      go_ret
      exact ⟨_, rfl, by have e1 : (⟨#[109]⟩ : ByteArray).size = 1 := rfl; simp only [ByteArray.size_append]; omega, hB⟩
end Go.Proofs.Ytngdgogjlpjjpac

namespace Go.Proofs.Ytngdgogjlpjjpac
open Go.RowKit
set_option linter.unusedVariables false
set_option linter.unusedSimpArgs false
set_option maxRecDepth 100000

/-- the digits of a number ahead of a text -/
def mtf:Nat -> Nat -> ByteArray -> ByteArray
 | 0,_,s=>s
 | f+1,k,s=>if k=0 then s else mtf f (k/10) (⟨#[UInt8.ofNat ((48 + (k : Int) % 10).toNat)]⟩++s)
theorem mtf_same:∀ (f g k:Nat) (s:ByteArray),k<=f -> k<=g -> mtf f k s=mtf g k s
 | 0,0,_,_,_,_=>rfl
 | 0,g+1,k,s,h,_=>by rw [show k=0 by omega];rfl
 | f+1,0,k,s,_,h=>by rw [show k=0 by omega];rfl
 | f+1,g+1,k,s,h,i=>by
  unfold mtf
  split
  · rfl
  · exact mtf_same f g _ _ (by omega) (by omega)
def mtd (k:Nat)(s:ByteArray):ByteArray:=mtf k k s
theorem mtd_zero (s:ByteArray):mtd 0 s=s:=rfl
theorem mtd_step (k : Nat) (s : ByteArray) (h : 0 < k) : mtd k s = mtd (k / 10) (⟨#[UInt8.ofNat ((48 + (k : Int) % 10).toNat)]⟩ ++ s) := by
 obtain ⟨j,rfl⟩:∃ j,k=j+1:=⟨k-1,by omega⟩
 show mtf (j+1) (j+1) s=_
 unfold mtf
 rw [if_neg (by omega)]
 exact mtf_same _ _ _ _ (by omega) (by omega)
/-- the text of a mark -/
def mtx (k : Nat) : ByteArray := ⟨#[109]⟩ ++ mtd k ⟨#[]⟩

set_option maxHeartbeats 1000000 in
theorem markText_is (k : Nat) (w : World) (h0 : 0 < k) (hk : k ≤ 8388608) : Calls Try.prog 136 #[.int .i64 k] w fun e w' => e = .returned (.string (mtx k)) ∧ Below w.heap.size w w' := by
  have hk0 : 0 < (k : Int) := by omega
  go_enter Try.func136, Try.ntmps136
  go_wp2_with fail
  go_loopw [0, 3] (fun x o wr => ∃ (m : Nat) (s : ByteArray), x = .int .i64 m ∧ o = .string s ∧ s.size + m ≤ 8388608 ∧ Hid (mtd m s = mtd k ⟨#[]⟩) ∧ Below w.heap.size w wr) (fun x _ _ => (intOf x).toNat)
  case atStart => exact ⟨k, ⟨#[]⟩, rfl, rfl, by show 0 + k ≤ _; omega, hide rfl, Below.refl _ _⟩
  case round =>
    obtain ⟨m, s, rfl, rfl, hm, HM, hB⟩ := hrel
    clear hk hk0 h0
    by_cases hlt : 0 < m
    · have hlt' : 0 < (m : Int) := by omega
      have hcv := fun (W : World) => run_digit W (48 + (m : Int) % 10) (by omega) (by omega)
      have HB := hide hB
      have hBs := hB.size
      have HS := hide (mtd_step m s hlt)
      generalize hd : UInt8.ofNat ((48 + (m : Int) % 10).toNat) = d at *
      have HD := hide hd
      clear hB hd
      go_wp2
      go_roundw
      case rel =>
        refine ⟨m / 10, ⟨#[d]⟩ ++ s, by go_num, rfl, ?_, hide (by rw [← HM.out, HS.out]), HB.out.alloc hBs _⟩
        rw [ByteArray.size_append]
        have e1 : (⟨#[d]⟩ : ByteArray).size = 1 := rfl
        omega
      case measure => simp [intOf]; omega
    · obtain rfl : m = 0 := by omega
      have HM2 := hide (show mtx k = ⟨#[109]⟩ ++ s by unfold mtx; rw [← HM.out, mtd_zero])
      go_wp2
      go_ret
      exact ⟨by rw [HM2.out]; rfl, hB⟩
end Go.Proofs.Ytngdgogjlpjjpac
