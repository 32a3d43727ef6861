import Derived.Test.YtngdgogjlpjjpadJ28
import Derived.Lib.SmallJoins
import Derived.Test.YtngdgogjlpjjpadJ05
import Derived.Test.YtngdgogjlpjjpadJ04
import Derived.Laws.IdiomStrings
namespace Go.Proofs.Ytngdgogjlpjjpad
open Go.RowKit
set_option linter.unusedVariables false
set_option linter.unusedSimpArgs false
set_option maxRecDepth 100000


set_option maxHeartbeats 2000000 in
theorem iEncodeModule_bad (nm : ByteArray) (ta : Option Addr) (tn tc : Nat) (tz : List Int) (ba : Option Addr) (bn bc : Nat) (bl : List Bk) (da : Option Addr) (dn dc : Nat) (dz : List Int) (bss : Int) (ra : Option Addr) (rn rc : Nat) (rz : List Int) (ia : Option Addr) (im ic : Nat) (ss : List ByteArray) (ea : Option Addr) (en ec : Nat) (es : List Ex) (w : World)
    (h : MD w nm ta tn tc tz ba bn bc bl da dn dc dz bss ra rn rc rz ia im ic ss ea en ec es) (hv : mdo nm tn tz bn bl dn bss rn rz im ss en es ≠ 0) :
    Calls Try.prog 8 #[.agg #[.string nm, .slice ta tn tc, .slice ba bn bc, .slice da dn dc, .int .i64 bss, .slice ra rn rc, .slice ia im ic, .slice ea en ec]] w (EmPost w []) := by
  have HOK := hide (fun w h => iModuleOk_any nm ta tn tc tz ba bn bc bl da dn dc dz bss ra rn rc rz ia im ic ss ea en ec es w h)
  have k0 := Blk.new w #[.string nm, .slice ta tn tc, .slice ba bn bc, .slice da dn dc, .int .i64 bss, .slice ra rn rc, .slice ia im ic, .slice ea en ec] 29
  have hB0 : Below w.heap.size w (w.alloc (.cells #[.string nm, .slice ta tn tc, .slice ba bn bc, .slice da dn dc, .int .i64 bss, .slice ra rn rc, .slice ia im ic, .slice ea en ec] 29)) := (Below.refl _ _).alloc (Nat.le_refl _) _
  generalize mdo nm tn tz bn bl dn bss rn rz im ss en es = v at *
  go_enter Try.func8, Try.ntmps8
  go_wp2_with fail
  refine (HOK.out _ (MD.below h hB0)).mono ?_
  rintro e w1 ⟨rfl, hb1⟩
  have hB1 := hB0.trans (hb1.mono (by simp))
  clear hb1 hB0 HOK k0
  go_wp2
  go_ret
  exact ⟨none, 0, 0, rfl, ⟨⟨by simp, .inl ⟨rfl, rfl⟩⟩, by simp⟩, hB1, by simp⟩

set_option maxHeartbeats 2000000 in
theorem sEncodeModule_bad (nm : ByteArray) (ta : Option Addr) (tn tc : Nat) (tz : List Int) (ba : Option Addr) (bn bc : Nat) (bl : List Bk) (da : Option Addr) (dn dc : Nat) (dz : List Int) (bss : Int) (ra : Option Addr) (rn rc : Nat) (rz : List Int) (ia : Option Addr) (im ic : Nat) (ss : List ByteArray) (ea : Option Addr) (en ec : Nat) (es : List Ex) (w : World)
    (h : MD w nm ta tn tc tz ba bn bc bl da dn dc dz bss ra rn rc rz ia im ic ss ea en ec es) (hv : mdo nm tn tz bn bl dn bss rn rz im ss en es ≠ 0) :
    Calls Try.prog 11 #[.agg #[.string nm, .slice ta tn tc, .slice ba bn bc, .slice da dn dc, .int .i64 bss, .slice ra rn rc, .slice ia im ic, .slice ea en ec]] w (EmPost w []) := by
  have HOK := hide (fun w h => sModuleOk_any nm ta tn tc tz ba bn bc bl da dn dc dz bss ra rn rc rz ia im ic ss ea en ec es w h)
  have k0 := Blk.new w #[.string nm, .slice ta tn tc, .slice ba bn bc, .slice da dn dc, .int .i64 bss, .slice ra rn rc, .slice ia im ic, .slice ea en ec] 29
  have hB0 : Below w.heap.size w (w.alloc (.cells #[.string nm, .slice ta tn tc, .slice ba bn bc, .slice da dn dc, .int .i64 bss, .slice ra rn rc, .slice ia im ic, .slice ea en ec] 29)) := (Below.refl _ _).alloc (Nat.le_refl _) _
  generalize mdo nm tn tz bn bl dn bss rn rz im ss en es = v at *
  go_enter Try.func11, Try.ntmps11
  go_wp2_with fail
  refine (HOK.out _ (MD.below h hB0)).mono ?_
  rintro e w1 ⟨rfl, hb1⟩
  have hB1 := hB0.trans (hb1.mono (by simp))
  have hs1 := hB1.size
  clear hb1 hB0 HOK k0
  go_wp2
  go_ret
  exact ⟨some ⟨w1.heap.size, 0, none⟩, 0, 0, rfl, ⟨⟨by simp, .inr ⟨w1.heap.size, 0, #[], rfl, hs1, heap_alloc_new w1 _, Nat.le_refl _, by unfold maxLen; omega, rfl, rfl⟩⟩, by simp⟩, hB1.alloc hs1 _, by simp⟩

set_option maxHeartbeats 4000000 in
theorem iEncodeModule_any (nm : ByteArray) (ta : Option Addr) (tn tc : Nat) (tz : List Int) (ba : Option Addr) (bn bc : Nat) (bl : List Bk) (db : Nat) (dn dc : Nat) (dz : List Int) (bss : Int) (ra : Option Addr) (rn rc : Nat) (rz : List Int) (ia : Option Addr) (im ic : Nat) (ss : List ByteArray) (ea : Option Addr) (en ec : Nat) (es : List Ex) (w : World)
    (h : MD w nm ta tn tc tz ba bn bc bl (some ⟨db, 0, none⟩) dn dc dz bss ra rn rc rz ia im ic ss ea en ec es) (hv : mdo nm tn tz bn bl dn bss rn rz im ss en es = 0) :
    Calls Try.prog 8 #[.agg #[.string nm, .slice ta tn tc, .slice ba bn bc, .slice (some ⟨db, 0, none⟩) dn dc, .int .i64 bss, .slice ra rn rc, .slice ia im ic, .slice ea en ec]] w (EmPost w (encM nm tz bn bl dn dz bss rn rz im ss en es)) := by
  have V := vm_of_mdo h.b.1 hv
  have HOK := hide (fun w h => iModuleOk_any nm ta tn tc tz ba bn bc bl (some ⟨db, 0, none⟩) dn dc dz bss ra rn rc rz ia im ic ss ea en ec es w h)
  rw [hv] at HOK
  clear hv
  have HMO := hide (fun W g q c hI => module_any nm ta tn tc tz ba bn bc bl db dn dc dz bss ra rn rc rz ia im ic ss ea en ec es w W g q c h V hI)
  have k0 := Blk.new w #[.string nm, .slice ta tn tc, .slice ba bn bc, .slice (some ⟨db, 0, none⟩) dn dc, .int .i64 bss, .slice ra rn rc, .slice ia im ic, .slice ea en ec] 29
  have hB0 : Below w.heap.size w (w.alloc (.cells #[.string nm, .slice ta tn tc, .slice ba bn bc, .slice (some ⟨db, 0, none⟩) dn dc, .int .i64 bss, .slice ra rn rc, .slice ia im ic, .slice ea en ec] 29)) := (Below.refl _ _).alloc (Nat.le_refl _) _
  generalize encM nm tz bn bl dn dz bss rn rz im ss en es = out at *
  go_enter Try.func8, Try.ntmps8
  go_wp2_with fail
  refine (HOK.out _ (MD.below h hB0)).mono ?_
  rintro e w1 ⟨rfl, hb1⟩
  have k1 := k0.below hb1
  have hB1 := hB0.trans (hb1.mono (by simp))
  have hs1 := hB1.size
  obtain ⟨q0, q1, q2, q3, q4, q5, q6, q7⟩ := Blk.mod k1
  clear hb1 hB0 HOK k0
  have al1 : Below w1.heap.size w1 ((w1.alloc (.cells #[.int .u8 88, .int .u8 77] 5 (2, 3))).alloc (.cells #[.slice (some ⟨w1.heap.size, 0, none⟩) 2 2] 64)) := ((Below.refl _ _).alloc (Nat.le_refl _) _).alloc (by simp) _
  have k2 := k1.below al1
  have b2 := Blk.new (w1.alloc (.cells #[.int .u8 88, .int .u8 77] 5 (2, 3))) #[.slice (some ⟨w1.heap.size, 0, none⟩) 2 2] 64
  have s2 : BS ((w1.alloc (.cells #[.int .u8 88, .int .u8 77] 5 (2, 3))).alloc (.cells #[.slice (some ⟨w1.heap.size, 0, none⟩) 2 2] 64)) (some ⟨w1.heap.size, 0, none⟩) 2 2 [88, 77] := by
    refine BS.below (w := w1.alloc (.cells #[.int .u8 88, .int .u8 77] 5 (2, 3))) ?_ ((Below.refl _ _).alloc (Nat.le_refl _) _)
    refine ⟨rfl, by unfold maxLen; omega, ?_, fun _ => ⟨w1.heap.size, 0, rfl, fun i hi => ?_⟩, Nat.le_refl _⟩
    · intro z hz
      simp at hz
      omega
    · rw [Nat.zero_add, World.cell?_alloc_mark]
      match i, hi with
      | 0, _ => rfl
      | 1, _ => rfl
  have I2 : Iw w ((w1.alloc (.cells #[.int .u8 88, .int .u8 77] 5 (2, 3))).alloc (.cells #[.slice (some ⟨w1.heap.size, 0, none⟩) 2 2] 64)) (w1.heap.size + 1) w1.heap.size 2 2 [88, 77] := ⟨by simpa using b2, s2, .inr rfl, hB1.trans (al1.mono hs1), by omega⟩
  have HI2 := hide I2
  obtain ⟨p0, p1, p2, p3, p4, p5, p6, p7⟩ := Blk.mod k2
  clear I2 s2 b2 k2 al1
  have hcv := fun (W : World) => Lib.run_convert_bytes_const (P := Try.prog) W 22 5 #[.int .u8 88, .int .u8 77] 2 2 Try.underlying22 Try.underlying5
  go_wp2_with fail
  refine (HMO.out _ _ _ _ HI2.out).mono ?_
  rintro e w3 ⟨rfl, q, n, c, I3, O3, K3, hn4⟩
  have x0 := I3.box.cell 0
  simp at x0
  have HF := hide (And.intro O3 (And.intro I3.below (show out.length ≤ 40000 by rw [O3.bs.1]; omega)))
  clear I3 O3 K3 HI2 HMO p0 p1 p2 p3 p4 p5 p6 p7 q0 q1 q2 q3 q4 q5 q6 q7
  go_wp2
  go_ret
  exact ⟨_, _, _, rfl, HF.out.1, HF.out.2⟩
end Go.Proofs.Ytngdgogjlpjjpad

namespace Go.Proofs.Ytngdgogjlpjjpad
open Go.RowKit
set_option linter.unusedVariables false
set_option linter.unusedSimpArgs false
set_option maxRecDepth 100000

theorem run_digit (w : World) (d : Int) (h0 : 0 ≤ d) (h1 : d ≤ 255) : (convert 22 9 (.slice (some ⟨w.heap.size, 0, none⟩) 1 1)).run Try.prog (w.alloc (.cells #[.int .u8 d] 5)) = .ok (.string ⟨#[UInt8.ofNat d.toNat]⟩) (w.alloc (.cells #[.int .u8 d] 5)) := by
  have e : ((UInt8.ofNat d.toNat).toNat : Int) = d := by
    have : (UInt8.ofNat d.toNat).toNat = d.toNat % 256 := UInt8.toNat_ofNat'
    omega
  refine run_convert_bytes_back (P := Try.prog) (w.alloc (.cells #[.int .u8 d] 5)) 22 9 5 ⟨w.heap.size, 0, none⟩ 1 [UInt8.ofNat d.toNat] Try.underlying22 Try.underlying5 Try.underlying9 ?_
  intro j hj
  obtain rfl : j = 0 := by simp at hj; omega
  rw [addr_add, Blk.cell (Blk.new w _ _)]
  exact congrArg (fun z => some (Value.int .u8 z)) e.symm

set_option maxHeartbeats 1000000 in
theorem markText_any (k : Nat) (w : World) (hk : k ≤ 8388608) : Calls Try.prog 91 #[.int .i64 k] w fun e w' => ∃ s, e = .returned (.string s) ∧ s.size ≤ 8388610 ∧ Below w.heap.size w w' := by
  by_cases h0 : k = 0
  · subst h0
    go_enter Try.func91, Try.ntmps91
    go_wp2
    go_ret
    exact ⟨_, rfl, by decide, Below.refl _ _⟩
  have hk0 : 0 < (k : Int) := by omega
  go_enter Try.func91, Try.ntmps91
  go_wp2_with fail
  go_loopw [0, 3] (fun x o wr => ∃ (m : Nat) (s : ByteArray), x = .int .i64 m ∧ o = .string s ∧ s.size + m ≤ 8388608 ∧ Below w.heap.size w wr) (fun x _ _ => (intOf x).toNat)
  case atStart => exact ⟨k, ⟨#[]⟩, rfl, rfl, by show 0 + k ≤ _; omega, Below.refl _ _⟩
  case round =>
    obtain ⟨m, s, rfl, rfl, hm, hB⟩ := hrel
    clear hk hk0 h0
    by_cases hlt : 0 < m
    · have hlt' : 0 < (m : Int) := by omega
      have hcv := fun (W : World) => run_digit W (48 + (m : Int) % 10) (by omega) (by omega)
      have HB := hide hB
      have hBs := hB.size
      clear hB
      go_wp2
      go_roundw
      case rel =>
        refine ⟨m / 10, _, by go_num, rfl, ?_, HB.out.alloc hBs _⟩
        simp [ByteArray.size_append]
        have e1 : (⟨#[48 + UInt8.ofNat (m % 10)]⟩ : ByteArray).size = 1 := rfl
        omega
      case measure => simp [intOf]; omega
    · obtain rfl : m = 0 := by omega
      go_wp2
      go_ret
      exact ⟨_, rfl, by have e1 : (⟨#[109]⟩ : ByteArray).size = 1 := rfl; simp only [ByteArray.size_append]; omega, hB⟩
end Go.Proofs.Ytngdgogjlpjjpad
