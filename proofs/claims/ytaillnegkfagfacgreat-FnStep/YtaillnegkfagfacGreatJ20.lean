import Derived.Test.YtaillnegkfagfacGreatJ17
import Derived.Test.YtaillnegkfagfacGreatJ18
import Derived.Test.YtaillnegkfagfacGreatJ19
import Derived.Test.YtaillnegkfagfacGreatJ10
namespace Go.Proofs.YtaillnegkfagfacGreat
open Go.RowKit
set_option linter.unusedVariables false
set_option linter.unusedSimpArgs false
set_option maxRecDepth 100000

/-- WHAT A STEP OF THE PROCESSOR DOES. -/
def stp (pc : Int) (rg : List Int) (n1 n2 n3 : Nat) (x1 x2 x3 : List Int) (rs : List Rg) (rn : Nat) : Res :=
  if fet pc n1 n2 n3 x1 x2 rs rn = 0 then opr ((rd n1 n2 n3 x1 x2 pc 4).1 / 67108864) ((rd n1 n2 n3 x1 x2 pc 4).1 / 8388608 % 8) ((rd n1 n2 n3 x1 x2 pc 4).1 / 1048576 % 8) ((rd n1 n2 n3 x1 x2 pc 4).1 % 65536) pc rg n1 n2 n3 x1 x2 x3 rs rn
  else ⟨5, fet pc n1 n2 n3 x1 x2 rs rn, pc, rg, x1, x2, x3⟩
theorem fet_ok {pc : Int} {n1 n2 n3 : Nat} {x1 x2 : List Int} {rs : List Rg} {rn : Nat} (h : fet pc n1 n2 n3 x1 x2 rs rn = 0) : dOk (rd n1 n2 n3 x1 x2 pc 4).1 = true := by
  unfold fet at h
  split at h
  · split at h
    · split at h
      · assumption
      · omega
    · omega
  · omega
theorem dOk_op {x : Int} (h : dOk x = true) : 1 ≤ x / 67108864 ∧ x / 67108864 ≤ 25 := by
  unfold dOk okI okU at h
  simp only [Bool.and_eq_true, decide_eq_true_eq] at h
  by_cases hc : x / 67108864 ≤ 0 ∨ 26 ≤ x / 67108864
  · rw [us_out _ hc] at h
    omega
  · omega
theorem op_done_alloc {w W : World} {g base G : Nat} {pc : Int} {rg : List Int} {a1 a2 a3 : Option Addr} {n1 c1 n2 c2 n3 c3 : Nat} {x1 x2 x3 : List Int} {ra : Option Addr} {rn rc : Nat} {rs : List Rg} {u v : Value} (h : Pm W g base pc rg a1 a2 a3 n1 c1 n2 c2 n3 c3 x1 x2 x3 ra rn rc rs)
    (hk : Blk W G #[u, v] 65) (hg : G ≠ g) (hb : base ≤ G) (hT : Turn (fun j => base ≤ j) w W) (hK : Keeps g w W) (hGw : w.heap.size ≤ G) (did num : Int) (o : Obj) :
    OpPost w g base a1 a2 n1 c1 n2 c2 ra rn rc rs ⟨did, num, pc, rg, x1, x2, x3⟩ (.returned (.agg #[.int .i64 did, .int .i64 num])) (((W.setCell ⟨G, 0, none⟩ (.int .i64 did)).setCell ⟨G, 1, none⟩ (.int .i64 num)).alloc o) ∧
      (((W.setCell ⟨G, 0, none⟩ (.int .i64 did)).setCell ⟨G, 1, none⟩ (.int .i64 num)).alloc o).cell? ⟨G, 0, none⟩ = some (.int .i64 did) ∧ (((W.setCell ⟨G, 0, none⟩ (.int .i64 did)).setCell ⟨G, 1, none⟩ (.int .i64 num)).alloc o).cell? ⟨G, 1, none⟩ = some (.int .i64 num) := by
  obtain ⟨⟨b3, m3, d3, he, H, T, K⟩, _, _⟩ := op_done h hk hg hb hT hK hGw did num
  have kk := ((hk.set 0 (.int .i64 did)).set 1 (.int .i64 num)).alloc o
  have hB := (Below.refl ((W.setCell ⟨G, 0, none⟩ (.int .i64 did)).setCell ⟨G, 1, none⟩ (.int .i64 num)).heap.size ((W.setCell ⟨G, 0, none⟩ (.int .i64 did)).setCell ⟨G, 1, none⟩ (.int .i64 num))).alloc (Nat.le_refl _) o
  refine ⟨⟨b3, m3, d3, he, H.below hB, T.trans (turn_below hB), K.trans (keeps_below hB)⟩, ?_, ?_⟩
  · rw [kk.cell]; rfl
  · rw [kk.cell]; rfl
set_option maxHeartbeats 1000000 in
theorem pstep_any (g base : Nat) (pc : Int) (rg : List Int) (a1 a2 a3 : Option Addr) (n1 c1 n2 c2 n3 c3 : Nat) (x1 x2 x3 : List Int) (ra : Option Addr) (rn rc : Nat) (rs : List Rg) (w : World) (h : Pm w g base pc rg a1 a2 a3 n1 c1 n2 c2 n3 c3 x1 x2 x3 ra rn rc rs) :
    Calls Tryz.prog 33 #[.pointer (some ⟨g, 0, none⟩)] w (OpPost w g base a1 a2 n1 c1 n2 c2 ra rn rc rs (stp pc rg n1 n2 n3 x1 x2 x3 rs rn)) := by
  by_cases hf : fet pc n1 n2 n3 x1 x2 rs rn = 0
  · rw [stp, if_pos hf]
    have hop := dOk_op (fet_ok hf)
    rcases (show (rd n1 n2 n3 x1 x2 pc 4).1 / 67108864 = 1 ∨ (rd n1 n2 n3 x1 x2 pc 4).1 / 67108864 = 2 ∨ (rd n1 n2 n3 x1 x2 pc 4).1 / 67108864 = 3 ∨ (rd n1 n2 n3 x1 x2 pc 4).1 / 67108864 = 4 ∨ (rd n1 n2 n3 x1 x2 pc 4).1 / 67108864 = 5 ∨ (rd n1 n2 n3 x1 x2 pc 4).1 / 67108864 = 6 ∨ (rd n1 n2 n3 x1 x2 pc 4).1 / 67108864 = 7 ∨ (rd n1 n2 n3 x1 x2 pc 4).1 / 67108864 = 8 ∨ (rd n1 n2 n3 x1 x2 pc 4).1 / 67108864 = 9 ∨ (rd n1 n2 n3 x1 x2 pc 4).1 / 67108864 = 10 ∨ (rd n1 n2 n3 x1 x2 pc 4).1 / 67108864 = 11 ∨ (rd n1 n2 n3 x1 x2 pc 4).1 / 67108864 = 12 ∨ (rd n1 n2 n3 x1 x2 pc 4).1 / 67108864 = 13 ∨ (rd n1 n2 n3 x1 x2 pc 4).1 / 67108864 = 14 ∨ (rd n1 n2 n3 x1 x2 pc 4).1 / 67108864 = 15 ∨ (rd n1 n2 n3 x1 x2 pc 4).1 / 67108864 = 16 ∨ (rd n1 n2 n3 x1 x2 pc 4).1 / 67108864 = 17 ∨ (rd n1 n2 n3 x1 x2 pc 4).1 / 67108864 = 18 ∨ (rd n1 n2 n3 x1 x2 pc 4).1 / 67108864 = 19 ∨ (rd n1 n2 n3 x1 x2 pc 4).1 / 67108864 = 20 ∨ (rd n1 n2 n3 x1 x2 pc 4).1 / 67108864 = 21 ∨ (rd n1 n2 n3 x1 x2 pc 4).1 / 67108864 = 22 ∨ (rd n1 n2 n3 x1 x2 pc 4).1 / 67108864 = 23 ∨ (rd n1 n2 n3 x1 x2 pc 4).1 / 67108864 = 24 ∨ (rd n1 n2 n3 x1 x2 pc 4).1 / 67108864 = 25 by omega) with hop | hop | hop | hop | hop | hop | hop | hop | hop | hop | hop | hop | hop | hop | hop | hop | hop | hop | hop | hop | hop | hop | hop | hop | hop <;> rw [hop]
    · exact step1_any _ _ _ g base pc rg a1 a2 a3 n1 c1 n2 c2 n3 c3 x1 x2 x3 ra rn rc rs w h hf ⟨hop, rfl, rfl, rfl⟩
    · exact step2_any _ _ _ g base pc rg a1 a2 a3 n1 c1 n2 c2 n3 c3 x1 x2 x3 ra rn rc rs w h hf ⟨hop, rfl, rfl, rfl⟩
    · exact step3_any _ _ _ g base pc rg a1 a2 a3 n1 c1 n2 c2 n3 c3 x1 x2 x3 ra rn rc rs w h hf ⟨hop, rfl, rfl, rfl⟩
    · exact step4_any _ _ _ g base pc rg a1 a2 a3 n1 c1 n2 c2 n3 c3 x1 x2 x3 ra rn rc rs w h hf ⟨hop, rfl, rfl, rfl⟩
    · exact step5_any _ _ _ g base pc rg a1 a2 a3 n1 c1 n2 c2 n3 c3 x1 x2 x3 ra rn rc rs w h hf ⟨hop, rfl, rfl, rfl⟩
    · exact step6_any _ _ _ g base pc rg a1 a2 a3 n1 c1 n2 c2 n3 c3 x1 x2 x3 ra rn rc rs w h hf ⟨hop, rfl, rfl, rfl⟩
    · exact step7_any _ _ _ g base pc rg a1 a2 a3 n1 c1 n2 c2 n3 c3 x1 x2 x3 ra rn rc rs w h hf ⟨hop, rfl, rfl, rfl⟩
    · exact step8_any _ _ _ g base pc rg a1 a2 a3 n1 c1 n2 c2 n3 c3 x1 x2 x3 ra rn rc rs w h hf ⟨hop, rfl, rfl, rfl⟩
    · exact step9_any _ _ _ g base pc rg a1 a2 a3 n1 c1 n2 c2 n3 c3 x1 x2 x3 ra rn rc rs w h hf ⟨hop, rfl, rfl, rfl⟩
    · exact step10_any _ _ _ g base pc rg a1 a2 a3 n1 c1 n2 c2 n3 c3 x1 x2 x3 ra rn rc rs w h hf ⟨hop, rfl, rfl, rfl⟩
    · exact step11_any _ _ _ g base pc rg a1 a2 a3 n1 c1 n2 c2 n3 c3 x1 x2 x3 ra rn rc rs w h hf ⟨hop, rfl, rfl, rfl⟩
    · exact step12_any _ _ _ g base pc rg a1 a2 a3 n1 c1 n2 c2 n3 c3 x1 x2 x3 ra rn rc rs w h hf ⟨hop, rfl, rfl, rfl⟩
    · exact step13_any _ _ _ g base pc rg a1 a2 a3 n1 c1 n2 c2 n3 c3 x1 x2 x3 ra rn rc rs w h hf ⟨hop, rfl, rfl, rfl⟩
    · exact step14_any _ _ _ g base pc rg a1 a2 a3 n1 c1 n2 c2 n3 c3 x1 x2 x3 ra rn rc rs w h hf ⟨hop, rfl, rfl, rfl⟩
    · exact step15_any _ _ _ g base pc rg a1 a2 a3 n1 c1 n2 c2 n3 c3 x1 x2 x3 ra rn rc rs w h hf ⟨hop, rfl, rfl, rfl⟩
    · exact step16_any _ _ _ g base pc rg a1 a2 a3 n1 c1 n2 c2 n3 c3 x1 x2 x3 ra rn rc rs w h hf ⟨hop, rfl, rfl, rfl⟩
    · exact step17_any _ _ _ g base pc rg a1 a2 a3 n1 c1 n2 c2 n3 c3 x1 x2 x3 ra rn rc rs w h hf ⟨hop, rfl, rfl, rfl⟩
    · exact step18_any _ _ _ g base pc rg a1 a2 a3 n1 c1 n2 c2 n3 c3 x1 x2 x3 ra rn rc rs w h hf ⟨hop, rfl, rfl, rfl⟩
    · exact step19_any _ _ _ g base pc rg a1 a2 a3 n1 c1 n2 c2 n3 c3 x1 x2 x3 ra rn rc rs w h hf ⟨hop, rfl, rfl, rfl⟩
    · exact step20_any _ _ _ g base pc rg a1 a2 a3 n1 c1 n2 c2 n3 c3 x1 x2 x3 ra rn rc rs w h hf ⟨hop, rfl, rfl, rfl⟩
    · exact step21_any _ _ _ g base pc rg a1 a2 a3 n1 c1 n2 c2 n3 c3 x1 x2 x3 ra rn rc rs w h hf ⟨hop, rfl, rfl, rfl⟩
    · exact step22_any _ _ _ g base pc rg a1 a2 a3 n1 c1 n2 c2 n3 c3 x1 x2 x3 ra rn rc rs w h hf ⟨hop, rfl, rfl, rfl⟩
    · exact step23_any _ _ _ g base pc rg a1 a2 a3 n1 c1 n2 c2 n3 c3 x1 x2 x3 ra rn rc rs w h hf ⟨hop, rfl, rfl, rfl⟩
    · exact step24_any _ _ _ g base pc rg a1 a2 a3 n1 c1 n2 c2 n3 c3 x1 x2 x3 ra rn rc rs w h hf ⟨hop, rfl, rfl, rfl⟩
    · exact step25_any _ _ _ g base pc rg a1 a2 a3 n1 c1 n2 c2 n3 c3 x1 x2 x3 ra rn rc rs w h hf ⟨hop, rfl, rfl, rfl⟩
  · rw [stp, if_neg hf]
    have hB0 : Below w.heap.size w (w.alloc (.cells #[.int .i64 0, .int .i64 0] 65)) := (Below.refl _ _).alloc (Nat.le_refl _) _
    have ke := Blk.new w #[.int .i64 0, .int .i64 0] 65
    have H0 := h.below hB0
    have hlt := h.pr.blk.lt
    have hG : w.heap.size ≠ g := by omega
    have hbG : base ≤ w.heap.size := by have := h.bb; omega
    have T0 : Turn (fun j => base ≤ j) w _ := turn_below hB0
    have K0 : Keeps g w _ := keeps_below hB0
    have HF := hide (fun w h => pfetch_any g base pc rg a1 a2 a3 n1 c1 n2 c2 n3 c3 x1 x2 x3 ra rn rc rs w h)
    rw [fin, if_neg hf] at HF
    generalize fet pc n1 n2 n3 x1 x2 rs rn = f at *
    have hf' : (f != 0) = true := by simpa using hf
    clear h hB0 hf
    go_enter Tryz.func33, Tryz.ntmps33
    go_wp2_with fail
    refine (HF.out _ H0).mono ?_
    rintro e w1 ⟨rfl, hb1⟩
    have H1 := H0.below hb1
    have ke1 := ke.below hb1
    obtain ⟨hp, y0', y1'⟩ := op_done_alloc H1 ke1 hG hbG (T0.trans (turn_below hb1)) (K0.trans (keeps_below hb1)) (Nat.le_refl _) 5 f (.cells #[.int .i64 0, .int .i64 0, .int .i64 0, .int .i64 0] 53)
    have HX := hide hp
    obtain ⟨e1, e2, e3⟩ := ke1.two'
    have hs1 : w.heap.size < w1.heap.size := by have := hb1.size; simp at this; omega
    clear hp H1 ke1 H0 T0 K0 hb1 ke
    go_wp2
    exact bodyPost_ret (v := .agg #[.int .i64 5, .int .i64 f]) (by simp [results, Tryz.results33, go_sem, y0', y1']) rfl HX.out
end Go.Proofs.YtaillnegkfagfacGreat

namespace Go.Proofs.YtaillnegkfagfacGreat
open Go.RowKit
set_option linter.unusedVariables false
set_option linter.unusedSimpArgs false
set_option maxRecDepth 100000

theorem mid_range (zs : List Int) (k : Nat) (h : ∀ z ∈ zs, 0 ≤ z ∧ z ≤ 4294967295) : ∀ z ∈ mid zs k, 0 ≤ z ∧ z ≤ 4294967295 := by
  intro z hz
  unfold mid at hz
  obtain ⟨i, hi, rfl⟩ := List.mem_map.1 hz
  split
  · have hl : i < zs.length := by simpa using hi
    have := h zs[i] (List.getElem_mem hl)
    simpa [List.getD_eq_getElem?_getD, hl] using this
  · omega

set_option maxHeartbeats 1000000 in
theorem newP_any (pc : Int) (b off cc : Nat) (rg : List Int) (a1 a2 a3 : Option Addr) (n1 c1 n2 c2 n3 c3 : Nat) (ra : Option Addr) (rn rc : Nat) (w : World) (h : IS w (some ⟨b, off, none⟩) 8 cc rg) (p0 : 0 ≤ pc) (p1 : pc ≤ 4294967295) (hr : ∀ z ∈ rg, 0 ≤ z ∧ z ≤ 4294967295) :
    Calls Tryz.prog 32 #[.agg #[.int .i64 pc, .slice (some ⟨b, off, none⟩) 8 cc], .agg #[.slice a1 n1 c1, .slice a2 n2 c2, .slice a3 n3 c3], .slice ra rn rc] w fun e w' => ∃ g, w.heap.size ≤ g ∧ e = .returned (.pointer (some ⟨g, 0, none⟩)) ∧ Pr w' g pc rg (.slice a1 n1 c1) (.slice a2 n2 c2) (.slice a3 n3 c3) (.slice ra rn rc) ∧ Below w.heap.size w w' := by
  obtain ⟨W, hW⟩ : ∃ W, W = ((w.alloc (.cells #[.int .i64 pc, .slice (some ⟨b, off, none⟩) 8 cc] 25)).alloc (.cells #[.slice a1 n1 c1, .slice a2 n2 c2, .slice a3 n3 c3] 27)).alloc (.cells #[.int .u32 pc, .int .u32 0, .int .u32 0, .int .u32 0, .int .u32 0, .int .u32 0, .int .u32 0, .int .u32 0, .int .u32 0, .slice a1 n1 c1, .slice a2 n2 c2, .slice a3 n3 c3, .slice ra rn rc] 71) := ⟨_, rfl⟩
  have hl := h.1
  have hB0 : Below w.heap.size w W := by rw [hW]; exact (((Below.refl _ _).alloc (Nat.le_refl _) _).alloc (by simp) _).alloc (by simp; omega) _
  have P0 : Pr W (w.heap.size + 1 + 1) pc (mid rg 0) (.slice a1 n1 c1) (.slice a2 n2 c2) (.slice a3 n3 c3) (.slice ra rn rc) := by
    refine ⟨?_, by rw [mid_len]; exact hl, ⟨p0, p1⟩, mid_range rg 0 hr⟩
    rw [mid_zero, hl, hW]
    have := Blk.new ((w.alloc (.cells #[.int .i64 pc, .slice (some ⟨b, off, none⟩) 8 cc] 25)).alloc (.cells #[.slice a1 n1 c1, .slice a2 n2 c2, .slice a3 n3 c3] 27)) #[.int .u32 pc, .int .u32 0, .int .u32 0, .int .u32 0, .int .u32 0, .int .u32 0, .int .u32 0, .int .u32 0, .int .u32 0, .slice a1 n1 c1, .slice a2 n2 c2, .slice a3 n3 c3, .slice ra rn rc] 71
    simp only [World.size_alloc] at this
    exact this
  have HPC := hide (show IntKind.u32.wrap pc = pc by rw [IntKind.wrap_u32]; omega)
  go_enter Tryz.func32, Tryz.ntmps32
  go_wp2
  rw [← hW]
  clear hW
  have H := hide h
  clear h
  go_loopw [20] (fun i wr => ∃ k : Nat, k ≤ 8 ∧ i = .int .i64 k ∧ Pr wr (w.heap.size + 1 + 1) pc (mid rg k) (.slice a1 n1 c1) (.slice a2 n2 c2) (.slice a3 n3 c3) (.slice ra rn rc) ∧ Below w.heap.size w wr) (fun i _ => 8 - (intOf i).toNat)
  case atStart => exact ⟨0, Nat.zero_le _, rfl, P0, hB0⟩
  case round =>
    obtain ⟨k, hk, rfl, hR, hB⟩ := hrel
    clear P0 hB0
    by_cases hlt : k < 8
    · have hlt' : (k : Int) < 8 := by omega
      have hck := (H.out.below hB).at k hlt
      have hz := hr (rg.getD k 0) (by rw [List.getD_eq_getElem?_getD, List.getElem?_eq_getElem (show k < rg.length by omega)]; exact List.getElem_mem _)
      have hgk := hR.reg k hlt
      have hfk := hR.blk.frozen (1 + k)
      have R' := hR.setreg k hlt (rg.getD k 0) hz
      rw [mid_set rg k (by omega)] at R'
      have B' : Below w.heap.size w (wr.setCell ⟨w.heap.size + 1 + 1, 1 + k, none⟩ (.int .u32 (rg.getD k 0))) := hB.setCell (by dsimp only; omega) _
      obtain ⟨z0, z1⟩ := hz
      generalize rg.getD k 0 = z at *
      generalize (mid rg k).getD k 0 = y at *
      have HR := hide R'
      have HB := hide B'
      clear R' B' hR hB
      go_wp2
      go_roundw
      case rel => exact ⟨k + 1, by omega, by go_num, HR.out, HB.out⟩
      case measure => simp [intOf]; omega
    · have e : Hid (k = 8) := by show k = 8; omega
      have hR' := hide hR
      clear hR
      go_wp2
      go_ret
      exact ⟨_, by omega, rfl, by have := hR'.out; rw [e.out, ← hl, mid_all] at this; exact this, hB⟩

end Go.Proofs.YtaillnegkfagfacGreat

namespace Go.Proofs.YtaillnegkfagfacGreat
open Go.RowKit
set_option linter.unusedVariables false
set_option linter.unusedSimpArgs false
set_option maxRecDepth 100000

theorem list8 {rg : List Int} (h : rg.length = 8) : ∃ r0 r1 r2 r3 r4 r5 r6 r7, rg = [r0, r1, r2, r3, r4, r5, r6, r7] := by
  match rg, h with
  | [r0, r1, r2, r3, r4, r5, r6, r7], _ => exact ⟨r0, r1, r2, r3, r4, r5, r6, r7, rfl⟩
theorem RowI.oi {w : World} {base g : Nat} {zs : List Int} (h : RowI w g zs) (hb : base ≤ g) (hm : zs.length ≤ maxLen) (hz : ∀ z ∈ zs, wfi z) : OI w base (.slice (some ⟨g, 0, none⟩) zs.length zs.length) zs :=
  ⟨⟨by simp, .inr ⟨g, zs.length, (zs.map (Value.int .i64)).toArray, rfl, hb, h, Nat.le_refl _, hm, by simp, by simp [List.take_of_length_le]⟩⟩, hz⟩
theorem RowI.other {w : World} {g : Nat} {zs : List Int} (h : RowI w g zs) (a : Addr) (v : Value) (hg : g ≠ a.block) : RowI (w.setCell a v) g zs := Blk.other h a v hg

set_option maxHeartbeats 4000000 in
theorem pcore_any (g : Nat) (pc : Int) (rg : List Int) (s1 s2 s3 s4 : Value) (w : World) (h : Pr w g pc rg s1 s2 s3 s4) :
    Calls Tryz.prog 34 #[.pointer (some ⟨g, 0, none⟩)] w (CorePost w pc 8 rg) := by
  have hc := h.pc
  obtain ⟨p0, p1⟩ := h.pcw
  have hlt := h.blk.lt
  obtain ⟨r0, r1, r2, r3, r4, r5, r6, r7, rfl⟩ := list8 h.len
  have hmk : ∀ w : World, (Instr.makeSlice 23 (.int .i64 8) (.int .i64 8)).run Tryz.prog w = .ok (.slice (some ⟨w.heap.size, 0, none⟩) 8 8) (w.alloc (.cells #[.int .i64 0, .int .i64 0, .int .i64 0, .int .i64 0, .int .i64 0, .int .i64 0, .int .i64 0, .int .i64 0] 3)) := fun w => by kernel_rfl
  have hlt1 : g < w.heap.size + 1 := by omega
  have hlt2 : g < w.heap.size + 1 + 1 := by omega
  have hlt3 : g < w.heap.size + 1 + 1 + 1 := by omega
  have hne : g ≠ w.heap.size := by omega
  have hne1 : g ≠ w.heap.size + 1 := by omega
  have hne2 : g ≠ w.heap.size + 1 + 1 := by omega
  obtain ⟨u0, v0⟩ : 0 ≤ r0 ∧ r0 ≤ 4294967295 := h.rgw r0 (by simp)
  obtain ⟨u1, v1⟩ : 0 ≤ r1 ∧ r1 ≤ 4294967295 := h.rgw r1 (by simp)
  obtain ⟨u2, v2⟩ : 0 ≤ r2 ∧ r2 ≤ 4294967295 := h.rgw r2 (by simp)
  obtain ⟨u3, v3⟩ : 0 ≤ r3 ∧ r3 ≤ 4294967295 := h.rgw r3 (by simp)
  obtain ⟨u4, v4⟩ : 0 ≤ r4 ∧ r4 ≤ 4294967295 := h.rgw r4 (by simp)
  obtain ⟨u5, v5⟩ : 0 ≤ r5 ∧ r5 ≤ 4294967295 := h.rgw r5 (by simp)
  obtain ⟨u6, v6⟩ : 0 ≤ r6 ∧ r6 ≤ 4294967295 := h.rgw r6 (by simp)
  obtain ⟨u7, v7⟩ : 0 ≤ r7 ∧ r7 ≤ 4294967295 := h.rgw r7 (by simp)
  have i0 : ∀ w : World, (Instr.index 69 (.agg #[.int .u32 r0, .int .u32 r1, .int .u32 r2, .int .u32 r3, .int .u32 r4, .int .u32 r5, .int .u32 r6, .int .u32 r7]) (.int .i64 0)).run Tryz.prog w = .ok (.int .u32 r0) w := fun _ => by kernel_rfl
  have i1 : ∀ w : World, (Instr.index 69 (.agg #[.int .u32 r0, .int .u32 r1, .int .u32 r2, .int .u32 r3, .int .u32 r4, .int .u32 r5, .int .u32 r6, .int .u32 r7]) (.int .i64 1)).run Tryz.prog w = .ok (.int .u32 r1) w := fun _ => by kernel_rfl
  have i2 : ∀ w : World, (Instr.index 69 (.agg #[.int .u32 r0, .int .u32 r1, .int .u32 r2, .int .u32 r3, .int .u32 r4, .int .u32 r5, .int .u32 r6, .int .u32 r7]) (.int .i64 2)).run Tryz.prog w = .ok (.int .u32 r2) w := fun _ => by kernel_rfl
  have i3 : ∀ w : World, (Instr.index 69 (.agg #[.int .u32 r0, .int .u32 r1, .int .u32 r2, .int .u32 r3, .int .u32 r4, .int .u32 r5, .int .u32 r6, .int .u32 r7]) (.int .i64 3)).run Tryz.prog w = .ok (.int .u32 r3) w := fun _ => by kernel_rfl
  have i4 : ∀ w : World, (Instr.index 69 (.agg #[.int .u32 r0, .int .u32 r1, .int .u32 r2, .int .u32 r3, .int .u32 r4, .int .u32 r5, .int .u32 r6, .int .u32 r7]) (.int .i64 4)).run Tryz.prog w = .ok (.int .u32 r4) w := fun _ => by kernel_rfl
  have i5 : ∀ w : World, (Instr.index 69 (.agg #[.int .u32 r0, .int .u32 r1, .int .u32 r2, .int .u32 r3, .int .u32 r4, .int .u32 r5, .int .u32 r6, .int .u32 r7]) (.int .i64 5)).run Tryz.prog w = .ok (.int .u32 r5) w := fun _ => by kernel_rfl
  have i6 : ∀ w : World, (Instr.index 69 (.agg #[.int .u32 r0, .int .u32 r1, .int .u32 r2, .int .u32 r3, .int .u32 r4, .int .u32 r5, .int .u32 r6, .int .u32 r7]) (.int .i64 6)).run Tryz.prog w = .ok (.int .u32 r6) w := fun _ => by kernel_rfl
  have i7 : ∀ w : World, (Instr.index 69 (.agg #[.int .u32 r0, .int .u32 r1, .int .u32 r2, .int .u32 r3, .int .u32 r4, .int .u32 r5, .int .u32 r6, .int .u32 r7]) (.int .i64 7)).run Tryz.prog w = .ok (.int .u32 r7) w := fun _ => by kernel_rfl
  have HZ := hide (show ∀ z ∈ [r0, r1, r2, r3, r4, r5, r6, r7], wfi z from fun z hz => by have := h.rgw z hz; unfold wfi; omega)
  go_enter Tryz.func34, Tryz.ntmps34
  go_wp2
  go_region
  · obtain ⟨W, hW⟩ : ∃ W, W = (((w.alloc (.cells #[.int .i64 0, .slice none 0 0] 25)).alloc (.cells #[.int .i64 0, .int .i64 0, .int .i64 0, .int .i64 0, .int .i64 0, .int .i64 0, .int .i64 0, .int .i64 0] 3)).alloc (.cells #[.int .i64 pc, .slice (some ⟨w.heap.size + 1, 0, none⟩) 8 8] 25)).drew := ⟨_, rfl⟩
    have hB0 : Below w.heap.size w W := by rw [hW]; exact ((((Below.refl _ _).alloc (Nat.le_refl _) _).alloc (by simp) _).alloc (by simp; omega) _).drew
    have k0 := ((Blk.new w #[.int .i64 0, .slice none 0 0] 25).alloc (.cells #[.int .i64 0, .int .i64 0, .int .i64 0, .int .i64 0, .int .i64 0, .int .i64 0, .int .i64 0, .int .i64 0] 3)).alloc (.cells #[.int .i64 pc, .slice (some ⟨w.heap.size + 1, 0, none⟩) 8 8] 25)
    have k1 := (Blk.new (w.alloc (.cells #[.int .i64 0, .slice none 0 0] 25)) #[.int .i64 0, .int .i64 0, .int .i64 0, .int .i64 0, .int .i64 0, .int .i64 0, .int .i64 0, .int .i64 0] 3).alloc (.cells #[.int .i64 pc, .slice (some ⟨w.heap.size + 1, 0, none⟩) 8 8] 25)
    have k2 := Blk.new ((w.alloc (.cells #[.int .i64 0, .slice none 0 0] 25)).alloc (.cells #[.int .i64 0, .int .i64 0, .int .i64 0, .int .i64 0, .int .i64 0, .int .i64 0, .int .i64 0, .int .i64 0] 3)) #[.int .i64 pc, .slice (some ⟨w.heap.size + 1, 0, none⟩) 8 8] 25
    simp only [World.size_alloc] at k0 k1 k2
    have KZ : Blk W w.heap.size #[.int .i64 0, .slice none 0 0] 25 := by rw [hW]; exact k0
    have KC : Blk W (w.heap.size + 1 + 1) #[.int .i64 pc, .slice (some ⟨w.heap.size + 1, 0, none⟩) 8 8] 25 := by rw [hW]; exact k2
    have KR : RowI W (w.heap.size + 1) (mid [r0, r1, r2, r3, r4, r5, r6, r7] 0) := by rw [hW, mid_zero]; exact k1
    have PW := h.below hB0
    have x0 : W.cell? ⟨g, 1, none⟩ = some (.int .u32 r0) := PW.reg 0 (by omega)
    have x1 : W.cell? ⟨g, 2, none⟩ = some (.int .u32 r1) := PW.reg 1 (by omega)
    have x2 : W.cell? ⟨g, 3, none⟩ = some (.int .u32 r2) := PW.reg 2 (by omega)
    have x3 : W.cell? ⟨g, 4, none⟩ = some (.int .u32 r3) := PW.reg 3 (by omega)
    have x4 : W.cell? ⟨g, 5, none⟩ = some (.int .u32 r4) := PW.reg 4 (by omega)
    have x5 : W.cell? ⟨g, 6, none⟩ = some (.int .u32 r5) := PW.reg 5 (by omega)
    have x6 : W.cell? ⟨g, 7, none⟩ = some (.int .u32 r6) := PW.reg 6 (by omega)
    have x7 : W.cell? ⟨g, 8, none⟩ = some (.int .u32 r7) := PW.reg 7 (by omega)
    rw [← hW]
    clear hW k0 k1 k2 hc hmk hlt1 hlt2 hlt3 hne hne1 hne2 PW
    have H := hide h
    clear h
    go_wp2
    go_loopw [17] (fun i wr => ∃ k : Nat, k ≤ 8 ∧ i = .int .i64 k ∧ RowI wr (w.heap.size + 1) (mid [r0, r1, r2, r3, r4, r5, r6, r7] k) ∧ Blk wr (w.heap.size + 1 + 1) #[.int .i64 pc, .slice (some ⟨w.heap.size + 1, 0, none⟩) 8 8] 25 ∧ Blk wr w.heap.size #[.int .i64 0, .slice none 0 0] 25 ∧ Below w.heap.size w wr) (fun i _ => 8 - (intOf i).toNat)
    case atStart => exact ⟨0, Nat.zero_le _, rfl, KR, KC, KZ, hB0⟩
    case round =>
      obtain ⟨k, hk, rfl, hR, hC, hZ, hB⟩ := hrel
      clear KR KC KZ hB0 x0 x1 x2 x3 x4 x5 x6 x7
      obtain ⟨q1, q2, q3⟩ := hC.two'
      rcases (show k = 0 ∨ k = 1 ∨ k = 2 ∨ k = 3 ∨ k = 4 ∨ k = 5 ∨ k = 6 ∨ k = 7 ∨ k = 8 by omega) with rfl | rfl | rfl | rfl | rfl | rfl | rfl | rfl | rfl
      · have hgk := hR.cell 0 (by rw [mid_len]; simp)
        have hfk := hR.frozen 0
        have R' : RowI (wr.setCell ⟨w.heap.size + 1, 0, none⟩ (.int .i64 r0)) (w.heap.size + 1) (mid [r0, r1, r2, r3, r4, r5, r6, r7] 1) := by
          have := hR.set 0 ([r0, r1, r2, r3, r4, r5, r6, r7].getD 0 0)
          rw [mid_set [r0, r1, r2, r3, r4, r5, r6, r7] 0 (by simp)] at this
          exact this
        have HX := hide (And.intro R' (And.intro (hC.other ⟨w.heap.size + 1, 0, none⟩ (.int .i64 r0) (by dsimp only; omega)) (And.intro (hZ.other ⟨w.heap.size + 1, 0, none⟩ (.int .i64 r0) (by dsimp only; omega)) (hB.setCell (p := ⟨w.heap.size + 1, 0, none⟩) (by dsimp only; omega) (.int .i64 r0)))))
        generalize (mid [r0, r1, r2, r3, r4, r5, r6, r7] 0).getD 0 0 = y at *
        clear R' hR hC hZ hB
        rw [show ((0 : Nat) : Int) = 0 from rfl]
        go_wp2
        go_roundw
        case rel => exact ⟨1, by omega, by go_num, HX.out.1, HX.out.2.1, HX.out.2.2.1, HX.out.2.2.2⟩
        case measure => simp [intOf]
      · have hgk := hR.cell 1 (by rw [mid_len]; simp)
        have hfk := hR.frozen 1
        have R' : RowI (wr.setCell ⟨w.heap.size + 1, 1, none⟩ (.int .i64 r1)) (w.heap.size + 1) (mid [r0, r1, r2, r3, r4, r5, r6, r7] 2) := by
          have := hR.set 1 ([r0, r1, r2, r3, r4, r5, r6, r7].getD 1 0)
          rw [mid_set [r0, r1, r2, r3, r4, r5, r6, r7] 1 (by simp)] at this
          exact this
        have HX := hide (And.intro R' (And.intro (hC.other ⟨w.heap.size + 1, 1, none⟩ (.int .i64 r1) (by dsimp only; omega)) (And.intro (hZ.other ⟨w.heap.size + 1, 1, none⟩ (.int .i64 r1) (by dsimp only; omega)) (hB.setCell (p := ⟨w.heap.size + 1, 1, none⟩) (by dsimp only; omega) (.int .i64 r1)))))
        generalize (mid [r0, r1, r2, r3, r4, r5, r6, r7] 1).getD 1 0 = y at *
        clear R' hR hC hZ hB
        rw [show ((1 : Nat) : Int) = 1 from rfl]
        go_wp2
        go_roundw
        case rel => exact ⟨2, by omega, by go_num, HX.out.1, HX.out.2.1, HX.out.2.2.1, HX.out.2.2.2⟩
        case measure => simp [intOf]
      · have hgk := hR.cell 2 (by rw [mid_len]; simp)
        have hfk := hR.frozen 2
        have R' : RowI (wr.setCell ⟨w.heap.size + 1, 2, none⟩ (.int .i64 r2)) (w.heap.size + 1) (mid [r0, r1, r2, r3, r4, r5, r6, r7] 3) := by
          have := hR.set 2 ([r0, r1, r2, r3, r4, r5, r6, r7].getD 2 0)
          rw [mid_set [r0, r1, r2, r3, r4, r5, r6, r7] 2 (by simp)] at this
          exact this
        have HX := hide (And.intro R' (And.intro (hC.other ⟨w.heap.size + 1, 2, none⟩ (.int .i64 r2) (by dsimp only; omega)) (And.intro (hZ.other ⟨w.heap.size + 1, 2, none⟩ (.int .i64 r2) (by dsimp only; omega)) (hB.setCell (p := ⟨w.heap.size + 1, 2, none⟩) (by dsimp only; omega) (.int .i64 r2)))))
        generalize (mid [r0, r1, r2, r3, r4, r5, r6, r7] 2).getD 2 0 = y at *
        clear R' hR hC hZ hB
        rw [show ((2 : Nat) : Int) = 2 from rfl]
        go_wp2
        go_roundw
        case rel => exact ⟨3, by omega, by go_num, HX.out.1, HX.out.2.1, HX.out.2.2.1, HX.out.2.2.2⟩
        case measure => simp [intOf]
      · have hgk := hR.cell 3 (by rw [mid_len]; simp)
        have hfk := hR.frozen 3
        have R' : RowI (wr.setCell ⟨w.heap.size + 1, 3, none⟩ (.int .i64 r3)) (w.heap.size + 1) (mid [r0, r1, r2, r3, r4, r5, r6, r7] 4) := by
          have := hR.set 3 ([r0, r1, r2, r3, r4, r5, r6, r7].getD 3 0)
          rw [mid_set [r0, r1, r2, r3, r4, r5, r6, r7] 3 (by simp)] at this
          exact this
        have HX := hide (And.intro R' (And.intro (hC.other ⟨w.heap.size + 1, 3, none⟩ (.int .i64 r3) (by dsimp only; omega)) (And.intro (hZ.other ⟨w.heap.size + 1, 3, none⟩ (.int .i64 r3) (by dsimp only; omega)) (hB.setCell (p := ⟨w.heap.size + 1, 3, none⟩) (by dsimp only; omega) (.int .i64 r3)))))
        generalize (mid [r0, r1, r2, r3, r4, r5, r6, r7] 3).getD 3 0 = y at *
        clear R' hR hC hZ hB
        rw [show ((3 : Nat) : Int) = 3 from rfl]
        go_wp2
        go_roundw
        case rel => exact ⟨4, by omega, by go_num, HX.out.1, HX.out.2.1, HX.out.2.2.1, HX.out.2.2.2⟩
        case measure => simp [intOf]
      · have hgk := hR.cell 4 (by rw [mid_len]; simp)
        have hfk := hR.frozen 4
        have R' : RowI (wr.setCell ⟨w.heap.size + 1, 4, none⟩ (.int .i64 r4)) (w.heap.size + 1) (mid [r0, r1, r2, r3, r4, r5, r6, r7] 5) := by
          have := hR.set 4 ([r0, r1, r2, r3, r4, r5, r6, r7].getD 4 0)
          rw [mid_set [r0, r1, r2, r3, r4, r5, r6, r7] 4 (by simp)] at this
          exact this
        have HX := hide (And.intro R' (And.intro (hC.other ⟨w.heap.size + 1, 4, none⟩ (.int .i64 r4) (by dsimp only; omega)) (And.intro (hZ.other ⟨w.heap.size + 1, 4, none⟩ (.int .i64 r4) (by dsimp only; omega)) (hB.setCell (p := ⟨w.heap.size + 1, 4, none⟩) (by dsimp only; omega) (.int .i64 r4)))))
        generalize (mid [r0, r1, r2, r3, r4, r5, r6, r7] 4).getD 4 0 = y at *
        clear R' hR hC hZ hB
        rw [show ((4 : Nat) : Int) = 4 from rfl]
        go_wp2
        go_roundw
        case rel => exact ⟨5, by omega, by go_num, HX.out.1, HX.out.2.1, HX.out.2.2.1, HX.out.2.2.2⟩
        case measure => simp [intOf]
      · have hgk := hR.cell 5 (by rw [mid_len]; simp)
        have hfk := hR.frozen 5
        have R' : RowI (wr.setCell ⟨w.heap.size + 1, 5, none⟩ (.int .i64 r5)) (w.heap.size + 1) (mid [r0, r1, r2, r3, r4, r5, r6, r7] 6) := by
          have := hR.set 5 ([r0, r1, r2, r3, r4, r5, r6, r7].getD 5 0)
          rw [mid_set [r0, r1, r2, r3, r4, r5, r6, r7] 5 (by simp)] at this
          exact this
        have HX := hide (And.intro R' (And.intro (hC.other ⟨w.heap.size + 1, 5, none⟩ (.int .i64 r5) (by dsimp only; omega)) (And.intro (hZ.other ⟨w.heap.size + 1, 5, none⟩ (.int .i64 r5) (by dsimp only; omega)) (hB.setCell (p := ⟨w.heap.size + 1, 5, none⟩) (by dsimp only; omega) (.int .i64 r5)))))
        generalize (mid [r0, r1, r2, r3, r4, r5, r6, r7] 5).getD 5 0 = y at *
        clear R' hR hC hZ hB
        rw [show ((5 : Nat) : Int) = 5 from rfl]
        go_wp2
        go_roundw
        case rel => exact ⟨6, by omega, by go_num, HX.out.1, HX.out.2.1, HX.out.2.2.1, HX.out.2.2.2⟩
        case measure => simp [intOf]
      · have hgk := hR.cell 6 (by rw [mid_len]; simp)
        have hfk := hR.frozen 6
        have R' : RowI (wr.setCell ⟨w.heap.size + 1, 6, none⟩ (.int .i64 r6)) (w.heap.size + 1) (mid [r0, r1, r2, r3, r4, r5, r6, r7] 7) := by
          have := hR.set 6 ([r0, r1, r2, r3, r4, r5, r6, r7].getD 6 0)
          rw [mid_set [r0, r1, r2, r3, r4, r5, r6, r7] 6 (by simp)] at this
          exact this
        have HX := hide (And.intro R' (And.intro (hC.other ⟨w.heap.size + 1, 6, none⟩ (.int .i64 r6) (by dsimp only; omega)) (And.intro (hZ.other ⟨w.heap.size + 1, 6, none⟩ (.int .i64 r6) (by dsimp only; omega)) (hB.setCell (p := ⟨w.heap.size + 1, 6, none⟩) (by dsimp only; omega) (.int .i64 r6)))))
        generalize (mid [r0, r1, r2, r3, r4, r5, r6, r7] 6).getD 6 0 = y at *
        clear R' hR hC hZ hB
        rw [show ((6 : Nat) : Int) = 6 from rfl]
        go_wp2
        go_roundw
        case rel => exact ⟨7, by omega, by go_num, HX.out.1, HX.out.2.1, HX.out.2.2.1, HX.out.2.2.2⟩
        case measure => simp [intOf]
      · have hgk := hR.cell 7 (by rw [mid_len]; simp)
        have hfk := hR.frozen 7
        have R' : RowI (wr.setCell ⟨w.heap.size + 1, 7, none⟩ (.int .i64 r7)) (w.heap.size + 1) (mid [r0, r1, r2, r3, r4, r5, r6, r7] 8) := by
          have := hR.set 7 ([r0, r1, r2, r3, r4, r5, r6, r7].getD 7 0)
          rw [mid_set [r0, r1, r2, r3, r4, r5, r6, r7] 7 (by simp)] at this
          exact this
        have HX := hide (And.intro R' (And.intro (hC.other ⟨w.heap.size + 1, 7, none⟩ (.int .i64 r7) (by dsimp only; omega)) (And.intro (hZ.other ⟨w.heap.size + 1, 7, none⟩ (.int .i64 r7) (by dsimp only; omega)) (hB.setCell (p := ⟨w.heap.size + 1, 7, none⟩) (by dsimp only; omega) (.int .i64 r7)))))
        generalize (mid [r0, r1, r2, r3, r4, r5, r6, r7] 7).getD 7 0 = y at *
        clear R' hR hC hZ hB
        rw [show ((7 : Nat) : Int) = 7 from rfl]
        go_wp2
        go_roundw
        case rel => exact ⟨8, by omega, by go_num, HX.out.1, HX.out.2.1, HX.out.2.2.1, HX.out.2.2.2⟩
        case measure => simp [intOf]
      · obtain ⟨z1, z2, z3⟩ := hZ.two'
        have kz := (hZ.set 0 (.int .i64 pc)).set 1 (.slice (some ⟨w.heap.size + 1, 0, none⟩) 8 8)
        have kz' : Blk ((wr.setCell ⟨w.heap.size, 0, none⟩ (.int .i64 pc)).setCell ⟨w.heap.size, 1, none⟩ (.slice (some ⟨w.heap.size + 1, 0, none⟩) 8 8)) w.heap.size #[.int .i64 pc, .slice (some ⟨w.heap.size + 1, 0, none⟩) 8 8] 25 := by simpa using kz
        obtain ⟨y1, y2, y3⟩ := kz'.two'
        have hR8 : RowI wr (w.heap.size + 1) [r0, r1, r2, r3, r4, r5, r6, r7] := hR
        have HX := hide (And.intro ((((hR8.other ⟨w.heap.size, 0, none⟩ (.int .i64 pc) (by dsimp only; omega)).other ⟨w.heap.size, 1, none⟩ (.slice (some ⟨w.heap.size + 1, 0, none⟩) 8 8) (by dsimp only; omega)).oi (base := w.heap.size) (by omega) (by simp [maxLen]) HZ.out)) ((hB.setCell (p := ⟨w.heap.size, 0, none⟩) (by dsimp only; omega) (.int .i64 pc)).setCell (p := ⟨w.heap.size, 1, none⟩) (by dsimp only; omega) (.slice (some ⟨w.heap.size + 1, 0, none⟩) 8 8)))
        clear hR hR8 hC hZ hB kz kz'
        rw [show ((8 : Nat) : Int) = 8 from rfl]
        go_wp2
        exact bodyPost_ret (v := .agg #[.int .i64 pc, .slice (some ⟨w.heap.size + 1, 0, none⟩) 8 8]) (by simp [results, Tryz.results34, go_sem, y1, y2]) rfl ⟨_, _, rfl, HX.out.1, HX.out.2⟩
  · obtain ⟨W, hW⟩ : ∃ W, W = (((w.alloc (.cells #[.int .i64 0, .slice none 0 0] 25)).alloc (.cells #[.int .i64 pc, .slice (some ⟨w.heap.size + 1 + 1, 0, none⟩) 8 8] 25)).alloc (.cells #[.int .i64 0, .int .i64 0, .int .i64 0, .int .i64 0, .int .i64 0, .int .i64 0, .int .i64 0, .int .i64 0] 3)).drew := ⟨_, rfl⟩
    have hB0 : Below w.heap.size w W := by rw [hW]; exact ((((Below.refl _ _).alloc (Nat.le_refl _) _).alloc (by simp) _).alloc (by simp; omega) _).drew
    have k0 := ((Blk.new w #[.int .i64 0, .slice none 0 0] 25).alloc (.cells #[.int .i64 pc, .slice (some ⟨w.heap.size + 1 + 1, 0, none⟩) 8 8] 25)).alloc (.cells #[.int .i64 0, .int .i64 0, .int .i64 0, .int .i64 0, .int .i64 0, .int .i64 0, .int .i64 0, .int .i64 0] 3)
    have k1 := (Blk.new (w.alloc (.cells #[.int .i64 0, .slice none 0 0] 25)) #[.int .i64 pc, .slice (some ⟨w.heap.size + 1 + 1, 0, none⟩) 8 8] 25).alloc (.cells #[.int .i64 0, .int .i64 0, .int .i64 0, .int .i64 0, .int .i64 0, .int .i64 0, .int .i64 0, .int .i64 0] 3)
    have k2 := Blk.new ((w.alloc (.cells #[.int .i64 0, .slice none 0 0] 25)).alloc (.cells #[.int .i64 pc, .slice (some ⟨w.heap.size + 1 + 1, 0, none⟩) 8 8] 25)) #[.int .i64 0, .int .i64 0, .int .i64 0, .int .i64 0, .int .i64 0, .int .i64 0, .int .i64 0, .int .i64 0] 3
    simp only [World.size_alloc] at k0 k1 k2
    have KZ : Blk W w.heap.size #[.int .i64 0, .slice none 0 0] 25 := by rw [hW]; exact k0
    have KC : Blk W (w.heap.size + 1) #[.int .i64 pc, .slice (some ⟨w.heap.size + 1 + 1, 0, none⟩) 8 8] 25 := by rw [hW]; exact k1
    have KR : RowI W (w.heap.size + 1 + 1) (mid [r0, r1, r2, r3, r4, r5, r6, r7] 0) := by rw [hW, mid_zero]; exact k2
    have PW := h.below hB0
    have x0 : W.cell? ⟨g, 1, none⟩ = some (.int .u32 r0) := PW.reg 0 (by omega)
    have x1 : W.cell? ⟨g, 2, none⟩ = some (.int .u32 r1) := PW.reg 1 (by omega)
    have x2 : W.cell? ⟨g, 3, none⟩ = some (.int .u32 r2) := PW.reg 2 (by omega)
    have x3 : W.cell? ⟨g, 4, none⟩ = some (.int .u32 r3) := PW.reg 3 (by omega)
    have x4 : W.cell? ⟨g, 5, none⟩ = some (.int .u32 r4) := PW.reg 4 (by omega)
    have x5 : W.cell? ⟨g, 6, none⟩ = some (.int .u32 r5) := PW.reg 5 (by omega)
    have x6 : W.cell? ⟨g, 7, none⟩ = some (.int .u32 r6) := PW.reg 6 (by omega)
    have x7 : W.cell? ⟨g, 8, none⟩ = some (.int .u32 r7) := PW.reg 7 (by omega)
    rw [← hW]
    clear hW k0 k1 k2 hc hmk hlt1 hlt2 hlt3 hne hne1 hne2 PW
    have H := hide h
    clear h
    go_wp2
    go_loopw [17] (fun i wr => ∃ k : Nat, k ≤ 8 ∧ i = .int .i64 k ∧ RowI wr (w.heap.size + 1 + 1) (mid [r0, r1, r2, r3, r4, r5, r6, r7] k) ∧ Blk wr (w.heap.size + 1) #[.int .i64 pc, .slice (some ⟨w.heap.size + 1 + 1, 0, none⟩) 8 8] 25 ∧ Blk wr w.heap.size #[.int .i64 0, .slice none 0 0] 25 ∧ Below w.heap.size w wr) (fun i _ => 8 - (intOf i).toNat)
    case atStart => exact ⟨0, Nat.zero_le _, rfl, KR, KC, KZ, hB0⟩
    case round =>
      obtain ⟨k, hk, rfl, hR, hC, hZ, hB⟩ := hrel
      clear KR KC KZ hB0 x0 x1 x2 x3 x4 x5 x6 x7
      obtain ⟨q1, q2, q3⟩ := hC.two'
      rcases (show k = 0 ∨ k = 1 ∨ k = 2 ∨ k = 3 ∨ k = 4 ∨ k = 5 ∨ k = 6 ∨ k = 7 ∨ k = 8 by omega) with rfl | rfl | rfl | rfl | rfl | rfl | rfl | rfl | rfl
      · have hgk := hR.cell 0 (by rw [mid_len]; simp)
        have hfk := hR.frozen 0
        have R' : RowI (wr.setCell ⟨w.heap.size + 1 + 1, 0, none⟩ (.int .i64 r0)) (w.heap.size + 1 + 1) (mid [r0, r1, r2, r3, r4, r5, r6, r7] 1) := by
          have := hR.set 0 ([r0, r1, r2, r3, r4, r5, r6, r7].getD 0 0)
          rw [mid_set [r0, r1, r2, r3, r4, r5, r6, r7] 0 (by simp)] at this
          exact this
        have HX := hide (And.intro R' (And.intro (hC.other ⟨w.heap.size + 1 + 1, 0, none⟩ (.int .i64 r0) (by dsimp only; omega)) (And.intro (hZ.other ⟨w.heap.size + 1 + 1, 0, none⟩ (.int .i64 r0) (by dsimp only; omega)) (hB.setCell (p := ⟨w.heap.size + 1 + 1, 0, none⟩) (by dsimp only; omega) (.int .i64 r0)))))
        generalize (mid [r0, r1, r2, r3, r4, r5, r6, r7] 0).getD 0 0 = y at *
        clear R' hR hC hZ hB
        rw [show ((0 : Nat) : Int) = 0 from rfl]
        go_wp2
        go_roundw
        case rel => exact ⟨1, by omega, by go_num, HX.out.1, HX.out.2.1, HX.out.2.2.1, HX.out.2.2.2⟩
        case measure => simp [intOf]
      · have hgk := hR.cell 1 (by rw [mid_len]; simp)
        have hfk := hR.frozen 1
        have R' : RowI (wr.setCell ⟨w.heap.size + 1 + 1, 1, none⟩ (.int .i64 r1)) (w.heap.size + 1 + 1) (mid [r0, r1, r2, r3, r4, r5, r6, r7] 2) := by
          have := hR.set 1 ([r0, r1, r2, r3, r4, r5, r6, r7].getD 1 0)
          rw [mid_set [r0, r1, r2, r3, r4, r5, r6, r7] 1 (by simp)] at this
          exact this
        have HX := hide (And.intro R' (And.intro (hC.other ⟨w.heap.size + 1 + 1, 1, none⟩ (.int .i64 r1) (by dsimp only; omega)) (And.intro (hZ.other ⟨w.heap.size + 1 + 1, 1, none⟩ (.int .i64 r1) (by dsimp only; omega)) (hB.setCell (p := ⟨w.heap.size + 1 + 1, 1, none⟩) (by dsimp only; omega) (.int .i64 r1)))))
        generalize (mid [r0, r1, r2, r3, r4, r5, r6, r7] 1).getD 1 0 = y at *
        clear R' hR hC hZ hB
        rw [show ((1 : Nat) : Int) = 1 from rfl]
        go_wp2
        go_roundw
        case rel => exact ⟨2, by omega, by go_num, HX.out.1, HX.out.2.1, HX.out.2.2.1, HX.out.2.2.2⟩
        case measure => simp [intOf]
      · have hgk := hR.cell 2 (by rw [mid_len]; simp)
        have hfk := hR.frozen 2
        have R' : RowI (wr.setCell ⟨w.heap.size + 1 + 1, 2, none⟩ (.int .i64 r2)) (w.heap.size + 1 + 1) (mid [r0, r1, r2, r3, r4, r5, r6, r7] 3) := by
          have := hR.set 2 ([r0, r1, r2, r3, r4, r5, r6, r7].getD 2 0)
          rw [mid_set [r0, r1, r2, r3, r4, r5, r6, r7] 2 (by simp)] at this
          exact this
        have HX := hide (And.intro R' (And.intro (hC.other ⟨w.heap.size + 1 + 1, 2, none⟩ (.int .i64 r2) (by dsimp only; omega)) (And.intro (hZ.other ⟨w.heap.size + 1 + 1, 2, none⟩ (.int .i64 r2) (by dsimp only; omega)) (hB.setCell (p := ⟨w.heap.size + 1 + 1, 2, none⟩) (by dsimp only; omega) (.int .i64 r2)))))
        generalize (mid [r0, r1, r2, r3, r4, r5, r6, r7] 2).getD 2 0 = y at *
        clear R' hR hC hZ hB
        rw [show ((2 : Nat) : Int) = 2 from rfl]
        go_wp2
        go_roundw
        case rel => exact ⟨3, by omega, by go_num, HX.out.1, HX.out.2.1, HX.out.2.2.1, HX.out.2.2.2⟩
        case measure => simp [intOf]
      · have hgk := hR.cell 3 (by rw [mid_len]; simp)
        have hfk := hR.frozen 3
        have R' : RowI (wr.setCell ⟨w.heap.size + 1 + 1, 3, none⟩ (.int .i64 r3)) (w.heap.size + 1 + 1) (mid [r0, r1, r2, r3, r4, r5, r6, r7] 4) := by
          have := hR.set 3 ([r0, r1, r2, r3, r4, r5, r6, r7].getD 3 0)
          rw [mid_set [r0, r1, r2, r3, r4, r5, r6, r7] 3 (by simp)] at this
          exact this
        have HX := hide (And.intro R' (And.intro (hC.other ⟨w.heap.size + 1 + 1, 3, none⟩ (.int .i64 r3) (by dsimp only; omega)) (And.intro (hZ.other ⟨w.heap.size + 1 + 1, 3, none⟩ (.int .i64 r3) (by dsimp only; omega)) (hB.setCell (p := ⟨w.heap.size + 1 + 1, 3, none⟩) (by dsimp only; omega) (.int .i64 r3)))))
        generalize (mid [r0, r1, r2, r3, r4, r5, r6, r7] 3).getD 3 0 = y at *
        clear R' hR hC hZ hB
        rw [show ((3 : Nat) : Int) = 3 from rfl]
        go_wp2
        go_roundw
        case rel => exact ⟨4, by omega, by go_num, HX.out.1, HX.out.2.1, HX.out.2.2.1, HX.out.2.2.2⟩
        case measure => simp [intOf]
      · have hgk := hR.cell 4 (by rw [mid_len]; simp)
        have hfk := hR.frozen 4
        have R' : RowI (wr.setCell ⟨w.heap.size + 1 + 1, 4, none⟩ (.int .i64 r4)) (w.heap.size + 1 + 1) (mid [r0, r1, r2, r3, r4, r5, r6, r7] 5) := by
          have := hR.set 4 ([r0, r1, r2, r3, r4, r5, r6, r7].getD 4 0)
          rw [mid_set [r0, r1, r2, r3, r4, r5, r6, r7] 4 (by simp)] at this
          exact this
        have HX := hide (And.intro R' (And.intro (hC.other ⟨w.heap.size + 1 + 1, 4, none⟩ (.int .i64 r4) (by dsimp only; omega)) (And.intro (hZ.other ⟨w.heap.size + 1 + 1, 4, none⟩ (.int .i64 r4) (by dsimp only; omega)) (hB.setCell (p := ⟨w.heap.size + 1 + 1, 4, none⟩) (by dsimp only; omega) (.int .i64 r4)))))
        generalize (mid [r0, r1, r2, r3, r4, r5, r6, r7] 4).getD 4 0 = y at *
        clear R' hR hC hZ hB
        rw [show ((4 : Nat) : Int) = 4 from rfl]
        go_wp2
        go_roundw
        case rel => exact ⟨5, by omega, by go_num, HX.out.1, HX.out.2.1, HX.out.2.2.1, HX.out.2.2.2⟩
        case measure => simp [intOf]
      · have hgk := hR.cell 5 (by rw [mid_len]; simp)
        have hfk := hR.frozen 5
        have R' : RowI (wr.setCell ⟨w.heap.size + 1 + 1, 5, none⟩ (.int .i64 r5)) (w.heap.size + 1 + 1) (mid [r0, r1, r2, r3, r4, r5, r6, r7] 6) := by
          have := hR.set 5 ([r0, r1, r2, r3, r4, r5, r6, r7].getD 5 0)
          rw [mid_set [r0, r1, r2, r3, r4, r5, r6, r7] 5 (by simp)] at this
          exact this
        have HX := hide (And.intro R' (And.intro (hC.other ⟨w.heap.size + 1 + 1, 5, none⟩ (.int .i64 r5) (by dsimp only; omega)) (And.intro (hZ.other ⟨w.heap.size + 1 + 1, 5, none⟩ (.int .i64 r5) (by dsimp only; omega)) (hB.setCell (p := ⟨w.heap.size + 1 + 1, 5, none⟩) (by dsimp only; omega) (.int .i64 r5)))))
        generalize (mid [r0, r1, r2, r3, r4, r5, r6, r7] 5).getD 5 0 = y at *
        clear R' hR hC hZ hB
        rw [show ((5 : Nat) : Int) = 5 from rfl]
        go_wp2
        go_roundw
        case rel => exact ⟨6, by omega, by go_num, HX.out.1, HX.out.2.1, HX.out.2.2.1, HX.out.2.2.2⟩
        case measure => simp [intOf]
      · have hgk := hR.cell 6 (by rw [mid_len]; simp)
        have hfk := hR.frozen 6
        have R' : RowI (wr.setCell ⟨w.heap.size + 1 + 1, 6, none⟩ (.int .i64 r6)) (w.heap.size + 1 + 1) (mid [r0, r1, r2, r3, r4, r5, r6, r7] 7) := by
          have := hR.set 6 ([r0, r1, r2, r3, r4, r5, r6, r7].getD 6 0)
          rw [mid_set [r0, r1, r2, r3, r4, r5, r6, r7] 6 (by simp)] at this
          exact this
        have HX := hide (And.intro R' (And.intro (hC.other ⟨w.heap.size + 1 + 1, 6, none⟩ (.int .i64 r6) (by dsimp only; omega)) (And.intro (hZ.other ⟨w.heap.size + 1 + 1, 6, none⟩ (.int .i64 r6) (by dsimp only; omega)) (hB.setCell (p := ⟨w.heap.size + 1 + 1, 6, none⟩) (by dsimp only; omega) (.int .i64 r6)))))
        generalize (mid [r0, r1, r2, r3, r4, r5, r6, r7] 6).getD 6 0 = y at *
        clear R' hR hC hZ hB
        rw [show ((6 : Nat) : Int) = 6 from rfl]
        go_wp2
        go_roundw
        case rel => exact ⟨7, by omega, by go_num, HX.out.1, HX.out.2.1, HX.out.2.2.1, HX.out.2.2.2⟩
        case measure => simp [intOf]
      · have hgk := hR.cell 7 (by rw [mid_len]; simp)
        have hfk := hR.frozen 7
        have R' : RowI (wr.setCell ⟨w.heap.size + 1 + 1, 7, none⟩ (.int .i64 r7)) (w.heap.size + 1 + 1) (mid [r0, r1, r2, r3, r4, r5, r6, r7] 8) := by
          have := hR.set 7 ([r0, r1, r2, r3, r4, r5, r6, r7].getD 7 0)
          rw [mid_set [r0, r1, r2, r3, r4, r5, r6, r7] 7 (by simp)] at this
          exact this
        have HX := hide (And.intro R' (And.intro (hC.other ⟨w.heap.size + 1 + 1, 7, none⟩ (.int .i64 r7) (by dsimp only; omega)) (And.intro (hZ.other ⟨w.heap.size + 1 + 1, 7, none⟩ (.int .i64 r7) (by dsimp only; omega)) (hB.setCell (p := ⟨w.heap.size + 1 + 1, 7, none⟩) (by dsimp only; omega) (.int .i64 r7)))))
        generalize (mid [r0, r1, r2, r3, r4, r5, r6, r7] 7).getD 7 0 = y at *
        clear R' hR hC hZ hB
        rw [show ((7 : Nat) : Int) = 7 from rfl]
        go_wp2
        go_roundw
        case rel => exact ⟨8, by omega, by go_num, HX.out.1, HX.out.2.1, HX.out.2.2.1, HX.out.2.2.2⟩
        case measure => simp [intOf]
      · obtain ⟨z1, z2, z3⟩ := hZ.two'
        have kz := (hZ.set 0 (.int .i64 pc)).set 1 (.slice (some ⟨w.heap.size + 1 + 1, 0, none⟩) 8 8)
        have kz' : Blk ((wr.setCell ⟨w.heap.size, 0, none⟩ (.int .i64 pc)).setCell ⟨w.heap.size, 1, none⟩ (.slice (some ⟨w.heap.size + 1 + 1, 0, none⟩) 8 8)) w.heap.size #[.int .i64 pc, .slice (some ⟨w.heap.size + 1 + 1, 0, none⟩) 8 8] 25 := by simpa using kz
        obtain ⟨y1, y2, y3⟩ := kz'.two'
        have hR8 : RowI wr (w.heap.size + 1 + 1) [r0, r1, r2, r3, r4, r5, r6, r7] := hR
        have HX := hide (And.intro ((((hR8.other ⟨w.heap.size, 0, none⟩ (.int .i64 pc) (by dsimp only; omega)).other ⟨w.heap.size, 1, none⟩ (.slice (some ⟨w.heap.size + 1 + 1, 0, none⟩) 8 8) (by dsimp only; omega)).oi (base := w.heap.size) (by omega) (by simp [maxLen]) HZ.out)) ((hB.setCell (p := ⟨w.heap.size, 0, none⟩) (by dsimp only; omega) (.int .i64 pc)).setCell (p := ⟨w.heap.size, 1, none⟩) (by dsimp only; omega) (.slice (some ⟨w.heap.size + 1 + 1, 0, none⟩) 8 8)))
        clear hR hR8 hC hZ hB kz kz'
        rw [show ((8 : Nat) : Int) = 8 from rfl]
        go_wp2
        exact bodyPost_ret (v := .agg #[.int .i64 pc, .slice (some ⟨w.heap.size + 1 + 1, 0, none⟩) 8 8]) (by simp [results, Tryz.results34, go_sem, y1, y2]) rfl ⟨_, _, rfl, HX.out.1, HX.out.2⟩
end Go.Proofs.YtaillnegkfagfacGreat
