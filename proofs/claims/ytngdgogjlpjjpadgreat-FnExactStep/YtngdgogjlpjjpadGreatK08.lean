import Derived.Test.YtngdgogjlpjjpadGreatK07
import Derived.Deep.RegionHeld3
import Derived.Test.YtngdgogjlpjjpadGreatK06
namespace Go.Proofs.YtngdgogjlpjjpadGreat
open Go.RowKit
set_option linter.unusedVariables false
set_option linter.unusedSimpArgs false
set_option maxRecDepth 100000

/-- THE PROCESSOR AT BLOCK g: pc, eight registers, memory, regions. -/
structure Pr (w : World) (g : Nat) (pc : Int) (rg : List Int) (s1 s2 s3 s4 : Value) : Prop where
  blk : Blk w g (#[.int .u32 pc] ++ (rg.map (Value.int .u32)).toArray ++ #[s1, s2, s3, s4]) 147
  len : rg.length = 8
  pcw : 0 ≤ pc ∧ pc ≤ 4294967295
  rgw : ∀ z ∈ rg, 0 ≤ z ∧ z ≤ 4294967295
theorem Pr.pc {w : World} {g : Nat} {pc : Int} {rg : List Int} {s1 s2 s3 s4 : Value} (h : Pr w g pc rg s1 s2 s3 s4) : w.cell? ⟨g, 0, none⟩ = some (.int .u32 pc) := by
  rw [h.blk.cell]
  simp
theorem Pr.reg {w : World} {g : Nat} {pc : Int} {rg : List Int} {s1 s2 s3 s4 : Value} (h : Pr w g pc rg s1 s2 s3 s4) (i : Nat) (hi : i < 8) : w.cell? ⟨g, 1 + i, none⟩ = some (.int .u32 (rg.getD i 0)) := by
  rw [h.blk.cell]
  have hl := h.len
  rw [Array.getElem?_append_left (by simp; omega), Array.getElem?_append_right (by simp)]
  simp [List.getD_eq_getElem?_getD, show i < rg.length by omega]
theorem Pr.range {w : World} {g : Nat} {pc : Int} {rg : List Int} {s1 s2 s3 s4 : Value} (h : Pr w g pc rg s1 s2 s3 s4) (i : Nat) : 0 ≤ rg.getD i 0 ∧ rg.getD i 0 ≤ 4294967295 := by
  by_cases hi : i < rg.length
  · have := h.rgw rg[i] (List.getElem_mem hi)
    simpa [List.getD_eq_getElem?_getD, hi] using this
  · simp [List.getD_eq_getElem?_getD, Nat.le_of_not_lt hi]

theorem wrap_i16 (n : Int) : IntKind.i16.wrap n = (n + 32768) % 65536 - 32768 := by
  simp [IntKind.wrap, IntKind.bits, IntKind.signed]
  split <;> omega
set_option maxHeartbeats 400000 in
theorem widened_any (i : Int) (w : World) (h0 : 0 ≤ i) (h1 : i ≤ 65535) :
    Calls Tryz.prog 272 #[.int .i64 i] w fun e w' => e = .returned (.int .u32 (wide i % 4294967296)) ∧ w = w' := by
  have HW : Hid (IntKind.i16.wrap i % 4294967296 = wide i % 4294967296) := by
    show _ = _
    rw [wrap_i16]
    unfold wide
    split <;> omega
  go_enter Tryz.func272, Tryz.ntmps272
  go_wp2
  go_ret
  exact ⟨ret_int HW.out, rfl⟩
set_option maxHeartbeats 400000 in
theorem pd_any (op d a i : Int) (g : Nat) (pc : Int) (rg : List Int) (s1 s2 s3 s4 : Value) (w : World) (h : Pr w g pc rg s1 s2 s3 s4) (d0 : 0 ≤ d) (d1 : d ≤ 7) :
    Calls Tryz.prog 228 #[.pointer (some ⟨g, 0, none⟩), .agg #[.int .i64 op, .int .i64 d, .int .i64 a, .int .i64 i]] w fun e w' => e = .returned (.int .u32 (rg.getD d.toNat 0)) ∧ Below w.heap.size w w' := by
  have hr := h.reg d.toNat (by omega)
  have hlt := World.block_lt_of_cell? w _ hr
  generalize rg.getD d.toNat 0 = z at *
  have HB := hide ((Below.refl w.heap.size w).alloc (Nat.le_refl _) (.cells #[.int .i64 op, .int .i64 d, .int .i64 a, .int .i64 i] 124))
  go_enter Tryz.func228, Tryz.ntmps228
  go_wp2
  go_quiet (fail)
  go_wp2
  go_ret
  exact ⟨rfl, ⟨HB.out.os, HB.out.tape, HB.out.output, HB.out.size, HB.out.block⟩⟩
set_option maxHeartbeats 400000 in
theorem pa_any (op d a i : Int) (g : Nat) (pc : Int) (rg : List Int) (s1 s2 s3 s4 : Value) (w : World) (h : Pr w g pc rg s1 s2 s3 s4) (d0 : 0 ≤ a) (d1 : a ≤ 7) :
    Calls Tryz.prog 230 #[.pointer (some ⟨g, 0, none⟩), .agg #[.int .i64 op, .int .i64 d, .int .i64 a, .int .i64 i]] w fun e w' => e = .returned (.int .u32 (rg.getD a.toNat 0)) ∧ Below w.heap.size w w' := by
  have hr := h.reg a.toNat (by omega)
  have hlt := World.block_lt_of_cell? w _ hr
  generalize rg.getD a.toNat 0 = z at *
  have HB := hide ((Below.refl w.heap.size w).alloc (Nat.le_refl _) (.cells #[.int .i64 op, .int .i64 d, .int .i64 a, .int .i64 i] 124))
  go_enter Tryz.func230, Tryz.ntmps230
  go_wp2
  go_quiet (fail)
  go_wp2
  go_ret
  exact ⟨rfl, ⟨HB.out.os, HB.out.tape, HB.out.output, HB.out.size, HB.out.block⟩⟩
set_option maxHeartbeats 400000 in
theorem pnext_any (g : Nat) (pc : Int) (rg : List Int) (s1 s2 s3 s4 : Value) (w : World) (h : Pr w g pc rg s1 s2 s3 s4) :
    Calls Tryz.prog 271 #[.pointer (some ⟨g, 0, none⟩)] w fun e w' => e = .returned (.int .u32 ((pc + 4) % 4294967296)) ∧ w = w' := by
  have hr := h.pc
  obtain ⟨p0, p1⟩ := h.pcw
  go_enter Tryz.func271, Tryz.ntmps271
  go_wp2
  go_ret
  exact ⟨rfl, rfl⟩

theorem Pr.below {w w' : World} {g : Nat} {pc : Int} {rg : List Int} {s1 s2 s3 s4 : Value} (h : Pr w g pc rg s1 s2 s3 s4) (hb : Below w.heap.size w w') : Pr w' g pc rg s1 s2 s3 s4 := ⟨h.blk.below hb, h.len, h.pcw, h.rgw⟩

set_option maxHeartbeats 1000000 in
theorem pnear_any (op d a i : Int) (g : Nat) (pc : Int) (rg : List Int) (s1 s2 s3 s4 : Value) (w : World) (h : Pr w g pc rg s1 s2 s3 s4) (a0 : 0 ≤ a) (a1 : a ≤ 7) (i0 : 0 ≤ i) (i1 : i ≤ 65535) :
    Calls Tryz.prog 233 #[.pointer (some ⟨g, 0, none⟩), .agg #[.int .i64 op, .int .i64 d, .int .i64 a, .int .i64 i]] w fun e w' => e = .returned (.int .u32 ((rg.getD a.toNat 0 + wide i) % 4294967296)) ∧ Below w.heap.size w w' := by
  have hB0 : Below w.heap.size w (w.alloc (.cells #[.int .i64 op, .int .i64 d, .int .i64 a, .int .i64 i] 124)) := (Below.refl _ _).alloc (Nat.le_refl _) _
  have kb := Blk.new w #[.int .i64 op, .int .i64 d, .int .i64 a, .int .i64 i] 124
  obtain ⟨z0, z1⟩ := h.range a.toNat
  obtain ⟨x0, x1⟩ := wide_range i i0 i1
  have HA := hide (fun w h => pa_any op d a i g pc rg s1 s2 s3 s4 w h a0 a1)
  have HW := hide (fun w => widened_any i w i0 i1)
  have hlt := h.blk.lt
  have h' := h.below hB0
  generalize rg.getD a.toNat 0 = z at *
  generalize wide i = x at *
  have EQ := hide (show ∀ y : Int, y = IntKind.u32.wrap (z + x % 4294967296) → y = (z + x) % 4294967296 from fun y hy => by rw [hy, IntKind.wrap_u32]; omega)
  obtain ⟨q1, q2, q3, q4, q5⟩ := kb.four'
  go_enter Tryz.func233, Tryz.ntmps233
  go_wp2
  go_region_held3 (fun w' => w'.cell? ⟨w.heap.size, 0, none⟩ = some (.int .i64 op) ∧ w'.cell? ⟨w.heap.size, 1, none⟩ = some (.int .i64 d) ∧ w'.cell? ⟨w.heap.size, 2, none⟩ = some (.int .i64 a) ∧ w'.cell? ⟨w.heap.size, 3, none⟩ = some (.int .i64 i)) (go_keep)
    (first
      | (go_at_call 230; refine (HA.out _ ?_).mono ?_; exact ⟨h'.blk, h'.len, h'.pcw, h'.rgw⟩; rintro e w1 ⟨rfl, hb1⟩; replace hb1 := undrew hb1; obtain ⟨r1, r2, r3, r4, r5⟩ := (kb.below hb1).four')
      | (go_at_call 272; refine (HW.out _).mono ?_; rintro e w2 ⟨rfl, rfl⟩))
  go_wp2
  go_ret
  exact ⟨ret_int (by first | exact EQ.out _ rfl | omega), hB0.trans (hb1.mono (by simp))⟩
set_option maxHeartbeats 1000000 in
theorem ptarget_any (op d a i : Int) (g : Nat) (pc : Int) (rg : List Int) (s1 s2 s3 s4 : Value) (w : World) (h : Pr w g pc rg s1 s2 s3 s4) (i0 : 0 ≤ i) (i1 : i ≤ 65535) :
    Calls Tryz.prog 254 #[.pointer (some ⟨g, 0, none⟩), .agg #[.int .i64 op, .int .i64 d, .int .i64 a, .int .i64 i]] w fun e w' => e = .returned (.int .u32 ((pc + 4 + 4 * wide i) % 4294967296)) ∧ Below w.heap.size w w' := by
  have hB0 : Below w.heap.size w (w.alloc (.cells #[.int .i64 op, .int .i64 d, .int .i64 a, .int .i64 i] 124)) := (Below.refl _ _).alloc (Nat.le_refl _) _
  obtain ⟨p0, p1⟩ := h.pcw
  obtain ⟨x0, x1⟩ := wide_range i i0 i1
  have HN := hide (fun w h => pnext_any g pc rg s1 s2 s3 s4 w h)
  have HW := hide (fun w => widened_any i w i0 i1)
  have h' := h.below hB0
  generalize wide i = x at *
  have kb := Blk.new w #[.int .i64 op, .int .i64 d, .int .i64 a, .int .i64 i] 124
  obtain ⟨q1, q2, q3, q4, q5⟩ := kb.four'
  have EQ := hide (show ∀ y : Int, y = IntKind.u32.wrap ((pc + 4) % 4294967296 + IntKind.u32.wrap (4 * (x % 4294967296))) → y = (pc + 4 + 4 * x) % 4294967296 from fun y hy => by rw [hy, IntKind.wrap_u32, IntKind.wrap_u32]; omega)
  have HB := hide hB0
  go_enter Tryz.func254, Tryz.ntmps254
  go_wp2
  go_region_held3 (fun w' => w'.cell? ⟨w.heap.size, 0, none⟩ = some (.int .i64 op) ∧ w'.cell? ⟨w.heap.size, 1, none⟩ = some (.int .i64 d) ∧ w'.cell? ⟨w.heap.size, 2, none⟩ = some (.int .i64 a) ∧ w'.cell? ⟨w.heap.size, 3, none⟩ = some (.int .i64 i)) (go_keep)
    (first
      | (go_at_call 271; refine (HN.out _ ?_).mono ?_; exact ⟨h'.blk, h'.len, h'.pcw, h'.rgw⟩; rintro e w1 ⟨rfl, rfl⟩)
      | (go_at_call 272; refine (HW.out _).mono ?_; rintro e w2 ⟨rfl, rfl⟩))
  go_wp2
  go_ret
  exact ⟨ret_int (by first | exact EQ.out _ rfl | omega), by first | exact HB.out | exact HB.out.drew⟩
end Go.Proofs.YtngdgogjlpjjpadGreat

namespace Go.Proofs.YtngdgogjlpjjpadGreat
open Go.RowKit
set_option linter.unusedVariables false
set_option linter.unusedSimpArgs false
set_option maxRecDepth 100000

theorem Pr.setpc {w : World} {g : Nat} {pc : Int} {rg : List Int} {s1 s2 s3 s4 : Value} (h : Pr w g pc rg s1 s2 s3 s4) (v : Int) (hv : 0 ≤ v ∧ v ≤ 4294967295) : Pr (w.setCell ⟨g, 0, none⟩ (.int .u32 v)) g v rg s1 s2 s3 s4 := by
  refine ⟨?_, h.len, hv, h.rgw⟩
  have := h.blk.set 0 (.int .u32 v)
  have e : (#[Value.int .u32 pc] ++ (rg.map (Value.int .u32)).toArray ++ #[s1, s2, s3, s4]).setIfInBounds 0 (.int .u32 v) = #[Value.int .u32 v] ++ (rg.map (Value.int .u32)).toArray ++ #[s1, s2, s3, s4] := by
    apply Array.toList_inj.1
    simp
  rw [e] at this
  exact this
theorem Pr.setreg {w : World} {g : Nat} {pc : Int} {rg : List Int} {s1 s2 s3 s4 : Value} (h : Pr w g pc rg s1 s2 s3 s4) (i : Nat) (hi : i < 8) (v : Int) (hv : 0 ≤ v ∧ v ≤ 4294967295) : Pr (w.setCell ⟨g, 1 + i, none⟩ (.int .u32 v)) g pc (rg.set i v) s1 s2 s3 s4 := by
  have hl := h.len
  refine ⟨?_, by rw [List.length_set]; exact hl, h.pcw, fun z hz => ?_⟩
  · have := h.blk.set (1 + i) (.int .u32 v)
    have e : (#[Value.int .u32 pc] ++ (rg.map (Value.int .u32)).toArray ++ #[s1, s2, s3, s4]).setIfInBounds (1 + i) (.int .u32 v) = #[Value.int .u32 pc] ++ ((rg.set i v).map (Value.int .u32)).toArray ++ #[s1, s2, s3, s4] := by
      apply Array.toList_inj.1
      rw [Array.toList_setIfInBounds]
      simp only [Array.toList_append, List.map_set]
      rw [List.set_append_left _ _ (by simp; omega), List.set_append_right _ _ (by simp)]
      simp
    rw [e] at this
    exact this
  · rcases List.mem_or_eq_of_mem_set hz with hz | rfl
    · exact h.rgw z hz
    · exact hv
theorem turn_setg (w : World) (g i : Nat) (v : Value) : Turn (fun j => j = g) w (w.setCell ⟨g, i, none⟩ v) := ⟨rfl, rfl, rfl, by rw [size_setCell]; exact Nat.le_refl _, fun j hj hn => heap_setCell_other _ _ _ _ hn⟩

set_option maxHeartbeats 1000000 in
theorem pleave_any (did num : Int) (g : Nat) (pc : Int) (rg : List Int) (s1 s2 s3 s4 : Value) (w : World) (h : Pr w g pc rg s1 s2 s3 s4) :
    Calls Tryz.prog 224 #[.pointer (some ⟨g, 0, none⟩), .int .i64 did, .int .i64 num] w fun e w' => e = .returned (.agg #[.int .i64 did, .int .i64 num]) ∧ Pr w' g ((pc + 4) % 4294967296) rg s1 s2 s3 s4 ∧ Turn (fun j => j = g) w w' := by
  have HN := hide (fun w h => pnext_any g pc rg s1 s2 s3 s4 w h)
  have h' := h.below ((Below.refl w.heap.size w).alloc (Nat.le_refl _) (.cells #[.int .i64 0, .int .i64 0] 141))
  have T0 : Turn (fun j => j = g) w (w.alloc (.cells #[.int .i64 0, .int .i64 0] 141)) := turn_alloc w _
  go_enter Tryz.func224, Tryz.ntmps224
  go_wp2_with fail
  refine (HN.out _ h').mono ?_
  rintro e w1 ⟨rfl, rfl⟩
  have hlt := h.blk.lt
  have hc := h'.pc
  have hfz := h'.blk.frozen 0
  obtain ⟨v, hv⟩ : ∃ v, v = (pc + 4) % 4294967296 := ⟨_, rfl⟩
  have v0 : 0 ≤ v ∧ v ≤ 4294967295 := by omega
  rw [← hv]
  have HV := hide hv
  have HP := hide ((h.setpc v v0).below ((Below.refl _ _).alloc (Nat.le_refl _) (.cells #[.int .i64 did, .int .i64 num] 141)))
  have HT := hide ((turn_setg w g 0 (.int .u32 v)).trans (turn_alloc _ (.cells #[.int .i64 did, .int .i64 num] 141)))
  clear hv
  go_wp2
  refine bodyPost_ret (v := .agg #[.int .i64 did, .int .i64 num]) (by simp [results, Tryz.results224, go_sem]) rfl ⟨rfl, ?_, HT.out⟩
  rw [← HV.out]
  exact HP.out

set_option maxHeartbeats 1000000 in
theorem pjump_any (op d a i : Int) (t : Bool) (g : Nat) (pc : Int) (rg : List Int) (s1 s2 s3 s4 : Value) (w : World) (h : Pr w g pc rg s1 s2 s3 s4) (i0 : 0 ≤ i) (i1 : i ≤ 65535) :
    Calls Tryz.prog 250 #[.pointer (some ⟨g, 0, none⟩), .agg #[.int .i64 op, .int .i64 d, .int .i64 a, .int .i64 i], .bool t] w fun e w' => e = .returned (.agg #[.int .i64 0, .int .i64 0]) ∧ Pr w' g (if t then (pc + 4 + 4 * wide i) % 4294967296 else (pc + 4) % 4294967296) rg s1 s2 s3 s4 ∧ Turn (fun j => j = g) w w' := by
  have HN := hide (fun w h => pnext_any g pc rg s1 s2 s3 s4 w h)
  have HG := hide (fun w h => ptarget_any op d a i g pc rg s1 s2 s3 s4 w h i0 i1)
  have hB0 : Below w.heap.size w ((w.alloc (.cells #[.int .i64 op, .int .i64 d, .int .i64 a, .int .i64 i] 124)).alloc (.cells #[.int .i64 0, .int .i64 0] 141)) := ((Below.refl _ _).alloc (Nat.le_refl _) _).alloc (by simp) _
  have h' := h.below hB0
  have ke := Blk.new (w.alloc (.cells #[.int .i64 op, .int .i64 d, .int .i64 a, .int .i64 i] 124)) #[.int .i64 0, .int .i64 0] 141
  simp only [World.size_alloc] at ke
  have hlt := h.blk.lt
  cases t
  · go_enter Tryz.func250, Tryz.ntmps250
    go_wp2_with fail
    refine (HN.out _ h').mono ?_
    rintro e w1 ⟨rfl, rfl⟩
    have hc := h'.pc
    have hfz := h'.blk.frozen 0
    obtain ⟨v, hv⟩ : ∃ v, v = (pc + 4) % 4294967296 := ⟨_, rfl⟩
    have v0 : 0 ≤ v ∧ v ≤ 4294967295 := by omega
    rw [← hv]
    have HV := hide hv
    have HP := hide ((h.setpc v v0).below (((Below.refl _ _).alloc (Nat.le_refl _) (.cells #[.int .i64 op, .int .i64 d, .int .i64 a, .int .i64 i] 124)).alloc (by simp) (.cells #[.int .i64 0, .int .i64 0] 141)))
    have HT := hide (((turn_setg w g 0 (.int .u32 v)).trans (turn_alloc _ (.cells #[.int .i64 op, .int .i64 d, .int .i64 a, .int .i64 i] 124))).trans (turn_alloc _ (.cells #[.int .i64 0, .int .i64 0] 141)))
    clear hv
    go_wp2
    refine bodyPost_ret (v := .agg #[.int .i64 0, .int .i64 0]) (by simp [results, Tryz.results250, go_sem]) rfl ⟨rfl, ?_, HT.out⟩
    rw [← HV.out]
    exact HP.out
  · go_enter Tryz.func250, Tryz.ntmps250
    go_wp2_with fail
    refine (HG.out _ h').mono ?_
    rintro e w1 ⟨rfl, hb1⟩
    have h1 := h'.below hb1
    have ke1 := ke.below hb1
    have hc := h1.pc
    have hfz := h1.blk.frozen 0
    have hB1 := hB0.trans (hb1.mono (by simp; omega))
    obtain ⟨v, hv⟩ : ∃ v, v = (pc + 4 + 4 * wide i) % 4294967296 := ⟨_, rfl⟩
    have v0 : 0 ≤ v ∧ v ≤ 4294967295 := by omega
    rw [← hv]
    have HV := hide hv
    have HP := hide (h1.setpc v v0)
    have HT : Hid (Turn (fun j => j = g) w (w1.setCell ⟨g, 0, none⟩ (.int .u32 v))) := hide ((turn_below hB1).trans (turn_setg w1 g 0 (.int .u32 v)))
    have ke2 := ke1.other ⟨g, 0, none⟩ (.int .u32 v) (by dsimp only; omega)
    have ke3 := (ke2.set 0 (.int .i64 0)).set 1 (.int .i64 0)
    obtain ⟨e1, e2, e3⟩ : (w1.setCell ⟨g, 0, none⟩ (.int .u32 v)).cell? ⟨w.heap.size + 1, 0, none⟩ = some (.int .i64 0) ∧ (w1.setCell ⟨g, 0, none⟩ (.int .u32 v)).cell? ⟨w.heap.size + 1, 1, none⟩ = some (.int .i64 0) ∧ ∀ j, (w1.setCell ⟨g, 0, none⟩ (.int .u32 v)).frozen? ⟨w.heap.size + 1, j, none⟩ = false := ⟨by rw [ke2.cell]; rfl, by rw [ke2.cell]; rfl, fun j => ke2.frozen j⟩
    have HT2 := hide ((HT.out.trans (turn_below (S := fun j => j = g) (Below.refl _ _))))
    have P2 : Hid (Pr (((w1.setCell ⟨g, 0, none⟩ (.int .u32 v)).setCell ⟨w.heap.size + 1, 0, none⟩ (.int .i64 0)).setCell ⟨w.heap.size + 1, 1, none⟩ (.int .i64 0)) g v rg s1 s2 s3 s4) :=
      hide ⟨(HP.out.blk.other _ _ (by dsimp only; omega)).other _ _ (by dsimp only; omega), HP.out.len, HP.out.pcw, HP.out.rgw⟩
    have T2 : Hid (Turn (fun j => j = g) w (((w1.setCell ⟨g, 0, none⟩ (.int .u32 v)).setCell ⟨w.heap.size + 1, 0, none⟩ (.int .i64 0)).setCell ⟨w.heap.size + 1, 1, none⟩ (.int .i64 0))) :=
      hide ⟨HT.out.os, HT.out.tape, HT.out.output, by rw [size_setCell, size_setCell]; exact HT.out.size, fun k hk hn => by rw [heap_setCell_other _ _ _ _ (by dsimp only; omega), heap_setCell_other _ _ _ _ (by dsimp only; omega)]; exact HT.out.block k hk hn⟩
    have ke4 : Blk (((w1.setCell ⟨g, 0, none⟩ (.int .u32 v)).setCell ⟨w.heap.size + 1, 0, none⟩ (.int .i64 0)).setCell ⟨w.heap.size + 1, 1, none⟩ (.int .i64 0)) (w.heap.size + 1) #[.int .i64 0, .int .i64 0] 141 := by simpa using ke3
    have c0 : (((w1.setCell ⟨g, 0, none⟩ (.int .u32 v)).setCell ⟨w.heap.size + 1, 0, none⟩ (.int .i64 0)).setCell ⟨w.heap.size + 1, 1, none⟩ (.int .i64 0)).cell? ⟨w.heap.size + 1, 0, none⟩ = some (.int .i64 0) := by rw [ke4.cell]; rfl
    have c1 : (((w1.setCell ⟨g, 0, none⟩ (.int .u32 v)).setCell ⟨w.heap.size + 1, 0, none⟩ (.int .i64 0)).setCell ⟨w.heap.size + 1, 1, none⟩ (.int .i64 0)).cell? ⟨w.heap.size + 1, 1, none⟩ = some (.int .i64 0) := by rw [ke4.cell]; rfl
    clear hv ke1 ke2 ke3 ke4
    go_wp2
    refine bodyPost_ret (v := .agg #[.int .i64 0, .int .i64 0]) (by simp [results, Tryz.results250, go_sem, c0, c1]) rfl ⟨rfl, ?_, T2.out⟩
    rw [← HV.out]
    exact P2.out
end Go.Proofs.YtngdgogjlpjjpadGreat

namespace Go.Proofs.YtngdgogjlpjjpadGreat
open Go.RowKit
set_option linter.unusedVariables false
set_option linter.unusedSimpArgs false
set_option maxRecDepth 100000

set_option maxHeartbeats 1000000 in
theorem pput_any (op d a i v : Int) (g : Nat) (pc : Int) (rg : List Int) (s1 s2 s3 s4 : Value) (w : World) (h : Pr w g pc rg s1 s2 s3 s4) (d0 : 0 ≤ d) (d1 : d ≤ 7) (v0 : 0 ≤ v) (v1 : v ≤ 4294967295) :
    Calls Tryz.prog 226 #[.pointer (some ⟨g, 0, none⟩), .agg #[.int .i64 op, .int .i64 d, .int .i64 a, .int .i64 i], .int .u32 v] w fun e w' => e = .returned (.agg #[.int .i64 0, .int .i64 0]) ∧ Pr w' g ((pc + 4) % 4294967296) (rg.set d.toNat v) s1 s2 s3 s4 ∧ Turn (fun j => j = g) w w' := by
  have hB0 : Below w.heap.size w ((w.alloc (.cells #[.int .i64 op, .int .i64 d, .int .i64 a, .int .i64 i] 124)).alloc (.cells #[.int .i64 0, .int .i64 0] 141)) := ((Below.refl _ _).alloc (Nat.le_refl _) _).alloc (by simp) _
  have h' := h.below hB0
  have hlt := h.blk.lt
  have hr := h'.reg d.toNat (by omega)
  have hfz := h'.blk.frozen
  have H2 := h.setreg d.toNat (by omega) v ⟨v0, v1⟩
  have HN := hide (fun w h => pnext_any g pc (rg.set d.toNat v) s1 s2 s3 s4 w h)
  go_enter Tryz.func226, Tryz.ntmps226
  go_wp2
  go_region
  have H3 := H2.below (((Below.refl _ _).alloc (Nat.le_refl _) (.cells #[.int .i64 op, .int .i64 d, .int .i64 a, .int .i64 i] 124)).alloc (by simp) (.cells #[.int .i64 0, .int .i64 0] 141))
  go_wp2_with fail
  refine (HN.out _ ?_).mono ?_
  exact ⟨H3.blk, H3.len, H3.pcw, H3.rgw⟩
  rintro e w1 ⟨rfl, rfl⟩
  have hc : (((w.setCell ⟨g, 1 + d.toNat, none⟩ (.int .u32 v)).alloc (.cells #[.int .i64 op, .int .i64 d, .int .i64 a, .int .i64 i] 124)).alloc (.cells #[.int .i64 0, .int .i64 0] 141)).cell? ⟨g, 0, none⟩ = some (.int .u32 pc) := H3.pc
  have hc2 := H2.pc
  have hf2 := H2.blk.frozen
  obtain ⟨u, hu⟩ : ∃ u, u = (pc + 4) % 4294967296 := ⟨_, rfl⟩
  have u0 : 0 ≤ u ∧ u ≤ 4294967295 := by omega
  rw [← hu]
  have HU := hide hu
  have HP := hide ((H2.setpc u u0).below (((Below.refl _ _).alloc (Nat.le_refl _) (.cells #[.int .i64 op, .int .i64 d, .int .i64 a, .int .i64 i] 124)).alloc (by simp) (.cells #[.int .i64 0, .int .i64 0] 141)))
  have HT := hide ((((turn_setg w g (1 + d.toNat) (.int .u32 v)).trans (turn_setg _ g 0 (.int .u32 u))).trans (turn_alloc _ (.cells #[.int .i64 op, .int .i64 d, .int .i64 a, .int .i64 i] 124))).trans (turn_alloc _ (.cells #[.int .i64 0, .int .i64 0] 141)))
  clear hu
  go_wp2
  refine bodyPost_ret (v := .agg #[.int .i64 0, .int .i64 0]) (by simp [results, Tryz.results226, go_sem]) rfl ⟨rfl, ?_, ⟨HT.out.os, HT.out.tape, HT.out.output, HT.out.size, HT.out.block⟩⟩
  rw [← HU.out]
  exact ⟨HP.out.blk, HP.out.len, HP.out.pcw, HP.out.rgw⟩
end Go.Proofs.YtngdgogjlpjjpadGreat

namespace Go.Proofs.YtngdgogjlpjjpadGreat
open Go.RowKit
set_option linter.unusedVariables false

theorem own3_below {w w' : World} {base : Nat} {v1 v2 v3 : Value} {x1 x2 x3 : List Int} (h : Own3 w base v1 v2 v3 x1 x2 x3) (hb : Below w.heap.size w w') : Own3 w' base v1 v2 v3 x1 x2 x3 :=
  ⟨h.1.below hb, h.2.1.below hb, h.2.2.1.below hb, h.2.2.2⟩
theorem own3_alloc {w : World} {base : Nat} {v1 v2 v3 : Value} {x1 x2 x3 : List Int} (h : Own3 w base v1 v2 v3 x1 x2 x3) (o : Obj) : Own3 (w.alloc o) base v1 v2 v3 x1 x2 x3 :=
  own3_below h ((Below.refl _ _).alloc (Nat.le_refl _) o)
theorem own3_other {w : World} {base : Nat} {v1 v2 v3 : Value} {x1 x2 x3 : List Int} (h : Own3 w base v1 v2 v3 x1 x2 x3) (a : Addr) (u : Value) (ha : a.block < base) : Own3 (w.setCell a u) base v1 v2 v3 x1 x2 x3 :=
  ⟨h.1.other a u ha, h.2.1.other a u ha, h.2.2.1.other a u ha, h.2.2.2⟩
theorem own3_mono {w : World} {base base' : Nat} {v1 v2 v3 : Value} {x1 x2 x3 : List Int} (h : Own3 w base v1 v2 v3 x1 x2 x3) (hb : base' ≤ base) : Own3 w base' v1 v2 v3 x1 x2 x3 :=
  ⟨h.1.mono hb, h.2.1.mono hb, h.2.2.1.mono hb, h.2.2.2⟩
theorem ob_far {w : World} {base g : Nat} {v : Value} {zs : List Int} (h : OB w base v zs) (a : Addr) (u : Value) (ha : v.ownBlock ≠ some a.block) : OB (w.setCell a u) base v zs := by
  refine ⟨?_, h.2⟩
  obtain ⟨hl, h0 | ⟨g', cap, cur, rfl, hg, hh, h1, h2, h3, h4⟩⟩ := h.1
  · exact ⟨hl, .inl h0⟩
  · exact ⟨hl, .inr ⟨g', cap, cur, rfl, hg, Blk.other (w := w) hh a u (by intro e; apply ha; rw [← e]; rfl), h1, h2, h3, h4⟩⟩
theorem grown_blk {w w' : World} {row : Option Nat} {k : Nat} {cs : Array Value} {t : TypeId} (hg : w.grownBy w' row) (h : Blk w k cs t) (hk : some k ≠ row) : Blk w' k cs t := by
  have := hg.block k h.lt hk
  unfold Blk at *; rw [this]; exact h
theorem grown_ob {w w' : World} {row : Option Nat} {base : Nat} {v : Value} {zs : List Int} (hg : w.grownBy w' row) (h : OB w base v zs) (hk : v.ownBlock = none ∨ v.ownBlock ≠ row) : OB w' base v zs :=
  ⟨h.1.kept hg hk, h.2⟩

/-- WHAT Write ANSWERS. -/
def wrm (n1 n2 n3 : Nat) (x1 x2 x3 : List Int) (p s v : Int) : List Int × List Int × List Int × Int :=
  if mok n1 n2 n3 = true ∧ wd s = true then
    if (p.tmod s != 0) = true then (x1, x2, x3, 1)
    else if p = 131072 then (if 5000 ≤ n3 then (x1, x2, x3, 4) else (x1, x2, x3 ++ [v % 256], 0))
      else if ins p s 0 n1 = true then (x1, x2, x3, 3)
      else if ins p s 65536 n2 = true then (x1, put x2 (p - 65536).toNat v s.toNat, x3, 0) else (x1, x2, x3, 2)
  else (x1, x2, x3, 2)

def WrPost (w : World) (r : List Int × List Int × List Int × Int) (e : Ending) (w' : World) : Prop :=
  ∃ a1 m1 d1 a2 m2 d2 a3 m3 d3, e = .returned (.tuple #[.agg #[.slice a1 m1 d1, .slice a2 m2 d2, .slice a3 m3 d3], .int .i64 r.2.2.2]) ∧ Own3 w' w.heap.size (.slice a1 m1 d1) (.slice a2 m2 d2) (.slice a3 m3 d3) r.1 r.2.1 r.2.2.1 ∧ Below w.heap.size w w'

/-- THE WORLD AS Write HOLDS IT: its box, its result's block, its own copy at 'go', and the bytes. -/
structure Hold (w W : World) (base go : Nat) (bx : Array Value) (v1 v2 v3 : Value) (x1 x2 x3 : List Int) : Prop where
  below : Below w.heap.size w W
  big : w.heap.size + 2 ≤ base
  gobig : base ≤ go
  box : Blk W w.heap.size bx 38
  res : Blk W (w.heap.size + 1) #[.slice none 0 0, .slice none 0 0, .slice none 0 0] 38
  out : Blk W go #[v1, v2, v3] 38
  own : Own3 W base v1 v2 v3 x1 x2 x3
  far : ∀ v, v = v1 ∨ v = v2 ∨ v = v3 → v.ownBlock ≠ some go
theorem Hold.step {w W W' : World} {base go : Nat} {bx : Array Value} {v1 v2 v3 : Value} {x1 x2 x3 : List Int} (h : Hold w W base go bx v1 v2 v3 x1 x2 x3) (hb : Below W.heap.size W W') : Hold w W' base go bx v1 v2 v3 x1 x2 x3 :=
  ⟨h.below.trans (hb.mono h.below.size), h.big, h.gobig, h.box.below hb, h.res.below hb, h.out.below hb, own3_below h.own hb, h.far⟩

def resW (W : World) (g : Nat) (v1 v2 v3 : Value) : World := ((W.setCell ⟨g, 0, none⟩ v1).setCell ⟨g, 1, none⟩ v2).setCell ⟨g, 2, none⟩ v3
theorem Hold.done {w W : World} {base go : Nat} {bx : Array Value} {v1 v2 v3 : Value} {x1 x2 x3 : List Int} (h : Hold w W base go bx v1 v2 v3 x1 x2 x3) :
    Own3 (resW W (w.heap.size + 1) v1 v2 v3) w.heap.size v1 v2 v3 x1 x2 x3 ∧ Below w.heap.size w (resW W (w.heap.size + 1) v1 v2 v3) := by
  have hb := h.big
  exact ⟨own3_mono (own3_other (own3_other (own3_other h.own _ _ (by dsimp only; omega)) _ _ (by dsimp only; omega)) _ _ (by dsimp only; omega)) (by omega),
    ((h.below.setCell (by dsimp only; omega) _).setCell (by dsimp only; omega) _).setCell (by dsimp only; omega) _⟩
theorem turn_ob {S : Nat → Prop} {base : Nat} {w w' : World} {v : Value} {zs : List Int} (ht : Turn S w w') (h : OB w base v zs) (hk : ∀ k, v.ownBlock = some k → ¬ S k) : OB w' base v zs := by
  refine ⟨?_, h.2⟩
  obtain ⟨hl, h0 | ⟨g', cap, cur, rfl, hg, hh, h1, h2, h3, h4⟩⟩ := h.1
  · exact ⟨hl, .inl h0⟩
  · exact ⟨hl, .inr ⟨g', cap, cur, rfl, hg, turn_blk ht hh (hk g' rfl), h1, h2, h3, h4⟩⟩
end Go.Proofs.YtngdgogjlpjjpadGreat
