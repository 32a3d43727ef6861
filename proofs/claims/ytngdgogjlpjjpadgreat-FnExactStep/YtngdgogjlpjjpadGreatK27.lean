import Derived.Test.YtngdgogjlpjjpadGreatK24
import Derived.Test.YtngdgogjlpjjpadGreatK25
import Derived.Test.YtngdgogjlpjjpadGreatK26
import Derived.Test.YtngdgogjlpjjpadGreatK14
import Derived.Test.YtngdgogjlpjjpadGreatK15
namespace Go.Proofs.YtngdgogjlpjjpadGreat
open Go.RowKit
set_option linter.unusedVariables false
set_option linter.unusedSimpArgs false
set_option maxRecDepth 100000

/-- WHAT A STEP OF THE PROCESSOR DOES. -/
def stp (pc : Int) (rg : List Int) (n1 n2 n3 : Nat) (x1 x2 x3 : List Int) (rs : List Rg) (rn : Nat) : Res :=
  if fet pc n1 n2 n3 x1 x2 rs rn = 0 then opr ((rd n1 n2 n3 x1 x2 pc 4).1 / 67108864) ((rd n1 n2 n3 x1 x2 pc 4).1 / 8388608 % 8) ((rd n1 n2 n3 x1 x2 pc 4).1 / 1048576 % 8) ((rd n1 n2 n3 x1 x2 pc 4).1 % 65536) pc rg n1 n2 n3 x1 x2 x3 rs rn
  else ⟨5, fet pc n1 n2 n3 x1 x2 rs rn, pc, rg, x1, x2, x3⟩
theorem fet_ok {pc : Int} {n1 n2 n3 : Nat} {x1 x2 : List Int} {rs : List Rg} {rn : Nat} (h : fet pc n1 n2 n3 x1 x2 rs rn = 0) : dOk (rd n1 n2 n3 x1 x2 pc 4).1 = true := by
  unfold fet at h
  split at h
  · split at h
    · split at h
      · assumption
      · omega
    · omega
  · omega
theorem dOk_op {x : Int} (h : dOk x = true) : 1 ≤ x / 67108864 ∧ x / 67108864 ≤ 25 := by
  unfold dOk okI okU at h
  simp only [Bool.and_eq_true, decide_eq_true_eq] at h
  by_cases hc : x / 67108864 ≤ 0 ∨ 26 ≤ x / 67108864
  · rw [us_out _ hc] at h
    omega
  · omega
theorem op_done_alloc {w W : World} {g base G : Nat} {pc : Int} {rg : List Int} {a1 a2 a3 : Option Addr} {n1 c1 n2 c2 n3 c3 : Nat} {x1 x2 x3 : List Int} {ra : Option Addr} {rn rc : Nat} {rs : List Rg} {u v : Value} (h : Pm W g base pc rg a1 a2 a3 n1 c1 n2 c2 n3 c3 x1 x2 x3 ra rn rc rs)
    (hk : Blk W G #[u, v] 141) (hg : G ≠ g) (hb : base ≤ G) (hT : Turn (fun j => base ≤ j) w W) (hK : Keeps g w W) (hGw : w.heap.size ≤ G) (did num : Int) (o : Obj) :
    OpPost w g base a1 a2 n1 c1 n2 c2 ra rn rc rs ⟨did, num, pc, rg, x1, x2, x3⟩ (.returned (.agg #[.int .i64 did, .int .i64 num])) (((W.setCell ⟨G, 0, none⟩ (.int .i64 did)).setCell ⟨G, 1, none⟩ (.int .i64 num)).alloc o) ∧
      (((W.setCell ⟨G, 0, none⟩ (.int .i64 did)).setCell ⟨G, 1, none⟩ (.int .i64 num)).alloc o).cell? ⟨G, 0, none⟩ = some (.int .i64 did) ∧ (((W.setCell ⟨G, 0, none⟩ (.int .i64 did)).setCell ⟨G, 1, none⟩ (.int .i64 num)).alloc o).cell? ⟨G, 1, none⟩ = some (.int .i64 num) := by
  obtain ⟨⟨b3, m3, d3, he, H, T, K⟩, _, _⟩ := op_done h hk hg hb hT hK hGw did num
  have kk := ((hk.set 0 (.int .i64 did)).set 1 (.int .i64 num)).alloc o
  have hB := (Below.refl ((W.setCell ⟨G, 0, none⟩ (.int .i64 did)).setCell ⟨G, 1, none⟩ (.int .i64 num)).heap.size ((W.setCell ⟨G, 0, none⟩ (.int .i64 did)).setCell ⟨G, 1, none⟩ (.int .i64 num))).alloc (Nat.le_refl _) o
  refine ⟨⟨b3, m3, d3, he, H.below hB, T.trans (turn_below hB), K.trans (keeps_below hB)⟩, ?_, ?_⟩
  · rw [kk.cell]; rfl
  · rw [kk.cell]; rfl
set_option maxHeartbeats 1000000 in
theorem pstep_any (g base : Nat) (pc : Int) (rg : List Int) (a1 a2 a3 : Option Addr) (n1 c1 n2 c2 n3 c3 : Nat) (x1 x2 x3 : List Int) (ra : Option Addr) (rn rc : Nat) (rs : List Rg) (w : World) (h : Pm w g base pc rg a1 a2 a3 n1 c1 n2 c2 n3 c3 x1 x2 x3 ra rn rc rs) :
    Calls Tryz.prog 98 #[.pointer (some ⟨g, 0, none⟩)] w (OpPost w g base a1 a2 n1 c1 n2 c2 ra rn rc rs (stp pc rg n1 n2 n3 x1 x2 x3 rs rn)) := by
  by_cases hf : fet pc n1 n2 n3 x1 x2 rs rn = 0
  · rw [stp, if_pos hf]
    have hop := dOk_op (fet_ok hf)
    rcases (show (rd n1 n2 n3 x1 x2 pc 4).1 / 67108864 = 1 ∨ (rd n1 n2 n3 x1 x2 pc 4).1 / 67108864 = 2 ∨ (rd n1 n2 n3 x1 x2 pc 4).1 / 67108864 = 3 ∨ (rd n1 n2 n3 x1 x2 pc 4).1 / 67108864 = 4 ∨ (rd n1 n2 n3 x1 x2 pc 4).1 / 67108864 = 5 ∨ (rd n1 n2 n3 x1 x2 pc 4).1 / 67108864 = 6 ∨ (rd n1 n2 n3 x1 x2 pc 4).1 / 67108864 = 7 ∨ (rd n1 n2 n3 x1 x2 pc 4).1 / 67108864 = 8 ∨ (rd n1 n2 n3 x1 x2 pc 4).1 / 67108864 = 9 ∨ (rd n1 n2 n3 x1 x2 pc 4).1 / 67108864 = 10 ∨ (rd n1 n2 n3 x1 x2 pc 4).1 / 67108864 = 11 ∨ (rd n1 n2 n3 x1 x2 pc 4).1 / 67108864 = 12 ∨ (rd n1 n2 n3 x1 x2 pc 4).1 / 67108864 = 13 ∨ (rd n1 n2 n3 x1 x2 pc 4).1 / 67108864 = 14 ∨ (rd n1 n2 n3 x1 x2 pc 4).1 / 67108864 = 15 ∨ (rd n1 n2 n3 x1 x2 pc 4).1 / 67108864 = 16 ∨ (rd n1 n2 n3 x1 x2 pc 4).1 / 67108864 = 17 ∨ (rd n1 n2 n3 x1 x2 pc 4).1 / 67108864 = 18 ∨ (rd n1 n2 n3 x1 x2 pc 4).1 / 67108864 = 19 ∨ (rd n1 n2 n3 x1 x2 pc 4).1 / 67108864 = 20 ∨ (rd n1 n2 n3 x1 x2 pc 4).1 / 67108864 = 21 ∨ (rd n1 n2 n3 x1 x2 pc 4).1 / 67108864 = 22 ∨ (rd n1 n2 n3 x1 x2 pc 4).1 / 67108864 = 23 ∨ (rd n1 n2 n3 x1 x2 pc 4).1 / 67108864 = 24 ∨ (rd n1 n2 n3 x1 x2 pc 4).1 / 67108864 = 25 by omega) with hop | hop | hop | hop | hop | hop | hop | hop | hop | hop | hop | hop | hop | hop | hop | hop | hop | hop | hop | hop | hop | hop | hop | hop | hop <;> rw [hop]
    · exact step1_any _ _ _ g base pc rg a1 a2 a3 n1 c1 n2 c2 n3 c3 x1 x2 x3 ra rn rc rs w h hf ⟨hop, rfl, rfl, rfl⟩
    · exact step2_any _ _ _ g base pc rg a1 a2 a3 n1 c1 n2 c2 n3 c3 x1 x2 x3 ra rn rc rs w h hf ⟨hop, rfl, rfl, rfl⟩
    · exact step3_any _ _ _ g base pc rg a1 a2 a3 n1 c1 n2 c2 n3 c3 x1 x2 x3 ra rn rc rs w h hf ⟨hop, rfl, rfl, rfl⟩
    · exact step4_any _ _ _ g base pc rg a1 a2 a3 n1 c1 n2 c2 n3 c3 x1 x2 x3 ra rn rc rs w h hf ⟨hop, rfl, rfl, rfl⟩
    · exact step5_any _ _ _ g base pc rg a1 a2 a3 n1 c1 n2 c2 n3 c3 x1 x2 x3 ra rn rc rs w h hf ⟨hop, rfl, rfl, rfl⟩
    · exact step6_any _ _ _ g base pc rg a1 a2 a3 n1 c1 n2 c2 n3 c3 x1 x2 x3 ra rn rc rs w h hf ⟨hop, rfl, rfl, rfl⟩
    · exact step7_any _ _ _ g base pc rg a1 a2 a3 n1 c1 n2 c2 n3 c3 x1 x2 x3 ra rn rc rs w h hf ⟨hop, rfl, rfl, rfl⟩
    · exact step8_any _ _ _ g base pc rg a1 a2 a3 n1 c1 n2 c2 n3 c3 x1 x2 x3 ra rn rc rs w h hf ⟨hop, rfl, rfl, rfl⟩
    · exact step9_any _ _ _ g base pc rg a1 a2 a3 n1 c1 n2 c2 n3 c3 x1 x2 x3 ra rn rc rs w h hf ⟨hop, rfl, rfl, rfl⟩
    · exact step10_any _ _ _ g base pc rg a1 a2 a3 n1 c1 n2 c2 n3 c3 x1 x2 x3 ra rn rc rs w h hf ⟨hop, rfl, rfl, rfl⟩
    · exact step11_any _ _ _ g base pc rg a1 a2 a3 n1 c1 n2 c2 n3 c3 x1 x2 x3 ra rn rc rs w h hf ⟨hop, rfl, rfl, rfl⟩
    · exact step12_any _ _ _ g base pc rg a1 a2 a3 n1 c1 n2 c2 n3 c3 x1 x2 x3 ra rn rc rs w h hf ⟨hop, rfl, rfl, rfl⟩
    · exact step13_any _ _ _ g base pc rg a1 a2 a3 n1 c1 n2 c2 n3 c3 x1 x2 x3 ra rn rc rs w h hf ⟨hop, rfl, rfl, rfl⟩
    · exact step14_any _ _ _ g base pc rg a1 a2 a3 n1 c1 n2 c2 n3 c3 x1 x2 x3 ra rn rc rs w h hf ⟨hop, rfl, rfl, rfl⟩
    · exact step15_any _ _ _ g base pc rg a1 a2 a3 n1 c1 n2 c2 n3 c3 x1 x2 x3 ra rn rc rs w h hf ⟨hop, rfl, rfl, rfl⟩
    · exact step16_any _ _ _ g base pc rg a1 a2 a3 n1 c1 n2 c2 n3 c3 x1 x2 x3 ra rn rc rs w h hf ⟨hop, rfl, rfl, rfl⟩
    · exact step17_any _ _ _ g base pc rg a1 a2 a3 n1 c1 n2 c2 n3 c3 x1 x2 x3 ra rn rc rs w h hf ⟨hop, rfl, rfl, rfl⟩
    · exact step18_any _ _ _ g base pc rg a1 a2 a3 n1 c1 n2 c2 n3 c3 x1 x2 x3 ra rn rc rs w h hf ⟨hop, rfl, rfl, rfl⟩
    · exact step19_any _ _ _ g base pc rg a1 a2 a3 n1 c1 n2 c2 n3 c3 x1 x2 x3 ra rn rc rs w h hf ⟨hop, rfl, rfl, rfl⟩
    · exact step20_any _ _ _ g base pc rg a1 a2 a3 n1 c1 n2 c2 n3 c3 x1 x2 x3 ra rn rc rs w h hf ⟨hop, rfl, rfl, rfl⟩
    · exact step21_any _ _ _ g base pc rg a1 a2 a3 n1 c1 n2 c2 n3 c3 x1 x2 x3 ra rn rc rs w h hf ⟨hop, rfl, rfl, rfl⟩
    · exact step22_any _ _ _ g base pc rg a1 a2 a3 n1 c1 n2 c2 n3 c3 x1 x2 x3 ra rn rc rs w h hf ⟨hop, rfl, rfl, rfl⟩
    · exact step23_any _ _ _ g base pc rg a1 a2 a3 n1 c1 n2 c2 n3 c3 x1 x2 x3 ra rn rc rs w h hf ⟨hop, rfl, rfl, rfl⟩
    · exact step24_any _ _ _ g base pc rg a1 a2 a3 n1 c1 n2 c2 n3 c3 x1 x2 x3 ra rn rc rs w h hf ⟨hop, rfl, rfl, rfl⟩
    · exact step25_any _ _ _ g base pc rg a1 a2 a3 n1 c1 n2 c2 n3 c3 x1 x2 x3 ra rn rc rs w h hf ⟨hop, rfl, rfl, rfl⟩
  · rw [stp, if_neg hf]
    have hB0 : Below w.heap.size w (w.alloc (.cells #[.int .i64 0, .int .i64 0] 141)) := (Below.refl _ _).alloc (Nat.le_refl _) _
    have ke := Blk.new w #[.int .i64 0, .int .i64 0] 141
    have H0 := h.below hB0
    have hlt := h.pr.blk.lt
    have hG : w.heap.size ≠ g := by omega
    have hbG : base ≤ w.heap.size := by have := h.bb; omega
    have T0 : Turn (fun j => base ≤ j) w _ := turn_below hB0
    have K0 : Keeps g w _ := keeps_below hB0
    have HF := hide (fun w h => pfetch_any g base pc rg a1 a2 a3 n1 c1 n2 c2 n3 c3 x1 x2 x3 ra rn rc rs w h)
    rw [fin, if_neg hf] at HF
    generalize fet pc n1 n2 n3 x1 x2 rs rn = f at *
    have hf' : (f != 0) = true := by simpa using hf
    clear h hB0 hf
    go_enter Tryz.func98, Tryz.ntmps98
    go_wp2_with fail
    refine (HF.out _ H0).mono ?_
    rintro e w1 ⟨rfl, hb1⟩
    have H1 := H0.below hb1
    have ke1 := ke.below hb1
    obtain ⟨hp, y0', y1'⟩ := op_done_alloc H1 ke1 hG hbG (T0.trans (turn_below hb1)) (K0.trans (keeps_below hb1)) (Nat.le_refl _) 5 f (.cells #[.int .i64 0, .int .i64 0, .int .i64 0, .int .i64 0] 124)
    have HX := hide hp
    obtain ⟨e1, e2, e3⟩ := ke1.two'
    have hs1 : w.heap.size < w1.heap.size := by have := hb1.size; simp at this; omega
    clear hp H1 ke1 H0 T0 K0 hb1 ke
    go_wp2
    exact bodyPost_ret (v := .agg #[.int .i64 5, .int .i64 f]) (by simp [results, Tryz.results98, go_sem, y0', y1']) rfl HX.out
end Go.Proofs.YtngdgogjlpjjpadGreat

namespace Go.Proofs.YtngdgogjlpjjpadGreat
open Go.RowKit
set_option linter.unusedVariables false
set_option linter.unusedSimpArgs false
set_option maxRecDepth 100000

theorem mid_range (zs : List Int) (k : Nat) (h : ∀ z ∈ zs, 0 ≤ z ∧ z ≤ 4294967295) : ∀ z ∈ mid zs k, 0 ≤ z ∧ z ≤ 4294967295 := by
  intro z hz
  unfold mid at hz
  obtain ⟨i, hi, rfl⟩ := List.mem_map.1 hz
  split
  · have hl : i < zs.length := by simpa using hi
    have := h zs[i] (List.getElem_mem hl)
    simpa [List.getD_eq_getElem?_getD, hl] using this
  · omega

set_option maxHeartbeats 1000000 in
theorem newP_any (pc : Int) (b off cc : Nat) (rg : List Int) (a1 a2 a3 : Option Addr) (n1 c1 n2 c2 n3 c3 : Nat) (ra : Option Addr) (rn rc : Nat) (w : World) (h : IS w (some ⟨b, off, none⟩) 8 cc rg) (p0 : 0 ≤ pc) (p1 : pc ≤ 4294967295) (hr : ∀ z ∈ rg, 0 ≤ z ∧ z ≤ 4294967295) :
    Calls Tryz.prog 97 #[.agg #[.int .i64 pc, .slice (some ⟨b, off, none⟩) 8 cc], .agg #[.slice a1 n1 c1, .slice a2 n2 c2, .slice a3 n3 c3], .slice ra rn rc] w fun e w' => ∃ g, w.heap.size ≤ g ∧ e = .returned (.pointer (some ⟨g, 0, none⟩)) ∧ Pr w' g pc rg (.slice a1 n1 c1) (.slice a2 n2 c2) (.slice a3 n3 c3) (.slice ra rn rc) ∧ Below w.heap.size w w' := by
  obtain ⟨W, hW⟩ : ∃ W, W = ((w.alloc (.cells #[.int .i64 pc, .slice (some ⟨b, off, none⟩) 8 cc] 58)).alloc (.cells #[.slice a1 n1 c1, .slice a2 n2 c2, .slice a3 n3 c3] 38)).alloc (.cells #[.int .u32 pc, .int .u32 0, .int .u32 0, .int .u32 0, .int .u32 0, .int .u32 0, .int .u32 0, .int .u32 0, .int .u32 0, .slice a1 n1 c1, .slice a2 n2 c2, .slice a3 n3 c3, .slice ra rn rc] 147) := ⟨_, rfl⟩
  have hl := h.1
  have hB0 : Below w.heap.size w W := by rw [hW]; exact (((Below.refl _ _).alloc (Nat.le_refl _) _).alloc (by simp) _).alloc (by simp; omega) _
  have P0 : Pr W (w.heap.size + 1 + 1) pc (mid rg 0) (.slice a1 n1 c1) (.slice a2 n2 c2) (.slice a3 n3 c3) (.slice ra rn rc) := by
    refine ⟨?_, by rw [mid_len]; exact hl, ⟨p0, p1⟩, mid_range rg 0 hr⟩
    rw [mid_zero, hl, hW]
    have := Blk.new ((w.alloc (.cells #[.int .i64 pc, .slice (some ⟨b, off, none⟩) 8 cc] 58)).alloc (.cells #[.slice a1 n1 c1, .slice a2 n2 c2, .slice a3 n3 c3] 38)) #[.int .u32 pc, .int .u32 0, .int .u32 0, .int .u32 0, .int .u32 0, .int .u32 0, .int .u32 0, .int .u32 0, .int .u32 0, .slice a1 n1 c1, .slice a2 n2 c2, .slice a3 n3 c3, .slice ra rn rc] 147
    simp only [World.size_alloc] at this
    exact this
  have HPC := hide (show IntKind.u32.wrap pc = pc by rw [IntKind.wrap_u32]; omega)
  go_enter Tryz.func97, Tryz.ntmps97
  go_wp2
  rw [← hW]
  clear hW
  have H := hide h
  clear h
  go_loopw [20] (fun i wr => ∃ k : Nat, k ≤ 8 ∧ i = .int .i64 k ∧ Pr wr (w.heap.size + 1 + 1) pc (mid rg k) (.slice a1 n1 c1) (.slice a2 n2 c2) (.slice a3 n3 c3) (.slice ra rn rc) ∧ Below w.heap.size w wr) (fun i _ => 8 - (intOf i).toNat)
  case atStart => exact ⟨0, Nat.zero_le _, rfl, P0, hB0⟩
  case round =>
    obtain ⟨k, hk, rfl, hR, hB⟩ := hrel
    clear P0 hB0
    by_cases hlt : k < 8
    · have hlt' : (k : Int) < 8 := by omega
      have hck := (H.out.below hB).at k hlt
      have hz := hr (rg.getD k 0) (by rw [List.getD_eq_getElem?_getD, List.getElem?_eq_getElem (show k < rg.length by omega)]; exact List.getElem_mem _)
      have hgk := hR.reg k hlt
      have hfk := hR.blk.frozen (1 + k)
      have R' := hR.setreg k hlt (rg.getD k 0) hz
      rw [mid_set rg k (by omega)] at R'
      have B' : Below w.heap.size w (wr.setCell ⟨w.heap.size + 1 + 1, 1 + k, none⟩ (.int .u32 (rg.getD k 0))) := hB.setCell (by dsimp only; omega) _
      obtain ⟨z0, z1⟩ := hz
      generalize rg.getD k 0 = z at *
      generalize (mid rg k).getD k 0 = y at *
      have HR := hide R'
      have HB := hide B'
      clear R' B' hR hB
      go_wp2
      go_roundw
      case rel => exact ⟨k + 1, by omega, by go_num, HR.out, HB.out⟩
      case measure => simp [intOf]; omega
    · have e : Hid (k = 8) := by show k = 8; omega
      have hR' := hide hR
      clear hR
      go_wp2
      go_ret
      exact ⟨_, by omega, rfl, by have := hR'.out; rw [e.out, ← hl, mid_all] at this; exact this, hB⟩

end Go.Proofs.YtngdgogjlpjjpadGreat
