import Derived.Test.YtngdgogjlpjjpaeGreatGa32
import Derived.Deep.RegionHeld3
import Derived.Laws.CopyOwn
namespace Go.Proofs.YtngdgogjlpjjpaeGreat
open Go.RowKit Classical
set_option linter.unusedVariables false
set_option linter.unusedSimpArgs false
set_option maxRecDepth 100000

theorem cut5 {S F : Nat → Nat → Nat → Nat → World → Prop} {G : Prop} (main : (∀ a b c d W, F a b c d W → S a b c d W) → G) (pf : ∀ a b c d W, F a b c d W → S a b c d W) : G := main pf

theorem cell_alloc' {W : World} {b o : Nat} {v : Value} {x : Obj} (h : W.cell? ⟨b, o, none⟩ = some v) : (W.alloc x).cell? ⟨b, o, none⟩ = some v := cell_below ((Below.refl _ _).alloc (Nat.le_refl _) _) h
theorem cell_drew' {W : World} {b o : Nat} {v : Value} (h : W.cell? ⟨b, o, none⟩ = some v) : W.drew.cell? ⟨b, o, none⟩ = some v := h
theorem cell_set' {W : World} {b o g i : Nat} {v u : Value} (hb : b < g) (h : W.cell? ⟨b, o, none⟩ = some v) : (W.setCell ⟨g, i, none⟩ u).cell? ⟨b, o, none⟩ = some v := (cellO (.inl (by omega))).trans h

/-- the rows of a memory that was made, and its box -/
structure Mk4 (N : Nat) (w1 W : World) (ZF ZR : Array Value) (F R gf gr go gm : Nat) : Prop where
  be : Below N w1 W
  f : Blk W gf ZF 5
  r : Blk W gr ZR 5
  o : Blk W go #[] 5
  m : Blk W gm #[.slice (some ⟨gf, 0, none⟩) F F, .slice (some ⟨gr, 0, none⟩) R R, .slice (some ⟨go, 0, none⟩) 0 0] 50
  lo : N ≤ gf ∧ N ≤ gr ∧ N ≤ go ∧ N ≤ gm
  ne : gf ≠ gr ∧ gf ≠ go ∧ gr ≠ go
theorem drew_sz' (w : World) : w.drew.heap.size = w.heap.size := rfl
theorem blk_drew {W : World} {g : Nat} {cs : Array Value} {t : TypeId} (h : Blk W g cs t) : Blk W.drew g cs t := h
theorem blk_new' {W : World} {g : Nat} {cs : Array Value} {t : TypeId} (h : g = W.heap.size) : Blk (W.alloc (.cells cs t)) g cs t := by subst h; exact Blk.new W cs t
theorem blk_other' {W : World} {g b i : Nat} {cs : Array Value} {t : TypeId} {v : Value} (hn : g ≠ b) (h : Blk W g cs t) : Blk (W.setCell ⟨b, i, none⟩ v) g cs t := h.other _ _ hn
theorem blk_set3 {W : World} {g : Nat} {t : TypeId} {v0 v1 v2 : Value} (h : Blk W g #[.slice none 0 0, .slice none 0 0, .slice none 0 0] t) : Blk (((W.setCell ⟨g, 0, none⟩ v0).setCell ⟨g, 1, none⟩ v1).setCell ⟨g, 2, none⟩ v2) g #[v0, v1, v2] t := by
  have := ((h.set 0 v0).set 1 v1).set 2 v2
  simpa only [List.setIfInBounds_toArray, List.set_cons_zero, List.set_cons_succ] using this
theorem bel_alloc {N : Nat} {a W : World} {x : Obj} (hN : N ≤ a.heap.size) (h : Below N a W) : Below N a (W.alloc x) := h.alloc (Nat.le_trans hN h.size) _
theorem bel_set {N : Nat} {a W : World} {g i : Nat} {v : Value} (hg : N ≤ g) (h : Below N a W) : Below N a (W.setCell ⟨g, i, none⟩ v) := h.setCell (p := ⟨g, i, none⟩) hg v
theorem bel_drew {N : Nat} {a W : World} (h : Below N a W) : Below N a W.drew := h.drew

/-- THE STATE of Image: its boxes, the rows of the memory -/
structure ImS (w : World) (V : Array Value) (F R gf gr go gm : Nat) (fz rz : List Int) (W : World) : Prop where
  be : Below w.heap.size w W
  kl : Blk W w.heap.size V 36
  kr : Blk W (w.heap.size + 1) #[.slice none 0 0, .slice none 0 0, .slice none 0 0] 50
  km : Blk W gm #[.slice (some ⟨gf, 0, none⟩) F F, .slice (some ⟨gr, 0, none⟩) R R, .slice (some ⟨go, 0, none⟩) 0 0] 50
  f : OB W w.heap.size (.slice (some ⟨gf, 0, none⟩) F F) fz
  r : OB W w.heap.size (.slice (some ⟨gr, 0, none⟩) R R) rz
  o : Blk W go #[] 5
  lo : w.heap.size + 1 < gf ∧ w.heap.size + 1 < gr ∧ w.heap.size + 1 < go ∧ w.heap.size + 1 < gm
  ne : gf ≠ gr ∧ gf ≠ go ∧ gr ≠ go
section
variable {w : World} {V : Array Value} {F R gf gr go gm : Nat} {fz rz : List Int} {W W' : World}
theorem ImS.below (h : ImS w V F R gf gr go gm fz rz W) (hb : Below W.heap.size W W') : ImS w V F R gf gr go gm fz rz W' := ⟨h.be.trans (hb.mono h.be.size), h.kl.below hb, h.kr.below hb, h.km.below hb, h.f.below hb, h.r.below hb, h.o.below hb, h.lo, h.ne⟩
theorem ob_blk {base g n c : Nat} {zs : List Int} (h : OB W base (.slice (some ⟨g, 0, none⟩) n c) zs) : ∃ cs, Blk W g cs 5 := own_kind h.1 rfl
theorem ImS.mf (h : ImS w V F R gf gr go gm fz rz W) : gm ≠ gf ∧ gm ≠ gr := by
  obtain ⟨c1, k1⟩ := ob_blk h.f
  obtain ⟨c2, k2⟩ := ob_blk h.r
  exact ⟨fun e => by subst e; exact absurd (blk_kind h.km k1) (by decide), fun e => by subst e; exact absurd (blk_kind h.km k2) (by decide)⟩
theorem ImS.setf (h : ImS w V F R gf gr go gm fz rz W) {fz' : List Int} (O : OB W' w.heap.size (.slice (some ⟨gf, 0, none⟩) F F) fz') (T : Only gf W W') : ImS w V F R gf gr go gm fz' rz W' :=
  ⟨only_below h.be T (by have := h.lo; omega), only_blk T h.kl (by have := h.lo; omega), only_blk T h.kr (by have := h.lo; omega), only_blk T h.km h.mf.1, O, only_ob T h.r (by have := h.ne.1; simp [Value.ownBlock]; omega), only_blk T h.o (by have := h.ne; omega), h.lo, h.ne⟩
theorem ImS.setr (h : ImS w V F R gf gr go gm fz rz W) {rz' : List Int} (O : OB W' w.heap.size (.slice (some ⟨gr, 0, none⟩) R R) rz') (T : Only gr W W') : ImS w V F R gf gr go gm fz rz' W' :=
  ⟨only_below h.be T (by have := h.lo; omega), only_blk T h.kl (by have := h.lo; omega), only_blk T h.kr (by have := h.lo; omega), only_blk T h.km h.mf.2, only_ob T h.f (by have := h.ne.1; simp [Value.ownBlock]; omega), O, only_blk T h.o (by have := h.ne; omega), h.lo, h.ne⟩
/-- .. with a place's box -/
structure Im5 (w : World) (V : Array Value) (F R gf gr go gm gp : Nat) (PV : Array Value) (fz rz : List Int) (W : World) : Prop where
  s : ImS w V F R gf gr go gm fz rz W
  p : Blk W gp PV 138
variable {gp : Nat} {PV : Array Value}
theorem Im5.below (h : Im5 w V F R gf gr go gm gp PV fz rz W) (hb : Below W.heap.size W W') : Im5 w V F R gf gr go gm gp PV fz rz W' := ⟨h.s.below hb, h.p.below hb⟩
theorem Im5.drew (h : Im5 w V F R gf gr go gm gp PV fz rz W) : Im5 w V F R gf gr go gm gp PV fz rz W.drew := h.below (Below.refl _ _).drew
theorem Im5.pf (h : Im5 w V F R gf gr go gm gp PV fz rz W) : gp ≠ gf ∧ gp ≠ gr := by
  obtain ⟨c1, k1⟩ := ob_blk h.s.f
  obtain ⟨c2, k2⟩ := ob_blk h.s.r
  exact ⟨fun e => by subst e; exact absurd (blk_kind h.p k1) (by decide), fun e => by subst e; exact absurd (blk_kind h.p k2) (by decide)⟩
theorem Im5.setf (h : Im5 w V F R gf gr go gm gp PV fz rz W) {fz' : List Int} (O : OB W' w.heap.size (.slice (some ⟨gf, 0, none⟩) F F) fz') (T : Only gf W W') : Im5 w V F R gf gr go gm gp PV fz' rz W' := ⟨h.s.setf O T, only_blk T h.p h.pf.1⟩
theorem Im5.setr (h : Im5 w V F R gf gr go gm gp PV fz rz W) {rz' : List Int} (O : OB W' w.heap.size (.slice (some ⟨gr, 0, none⟩) R R) rz') (T : Only gr W W') : Im5 w V F R gf gr go gm gp PV fz rz' W' := ⟨h.s.setr O T, only_blk T h.p h.pf.2⟩
end
end Go.Proofs.YtngdgogjlpjjpaeGreat

namespace Go.Proofs.YtngdgogjlpjjpaeGreat
open Go.RowKit Classical
set_option linter.unusedVariables false
set_option linter.unusedSimpArgs false
set_option maxRecDepth 100000

theorem ob_row8 {W : World} {base g n : Nat} {zs : List Int} (h : OB W base (.slice (some ⟨g, 0, none⟩) n n) zs) : W.heap[g]? = some (.cells (zs.map (Value.int .u8)).toArray 5 (0, 0)) ∧ zs.length = n ∧ base ≤ g ∧ n ≤ maxLen := by
  obtain ⟨hl, ⟨h0, _⟩ | ⟨g', cap', cur, hv, hg, hh, h1, h2, h3, h4⟩⟩ := h.1
  · simp at h0
  · simp at hv
    obtain ⟨rfl, rfl, rfl⟩ := hv
    refine ⟨?_, rfl, hg, by omega⟩
    have e : cur.toList = zs.map (Value.int .u8) := by rw [← h4, List.take_of_length_le (by simp [h3])]
    rw [hh, ← e]
theorem ovr_map (zs : List Int) (f : Nat) (ds : List Int) : splice (zs.map (Value.int .u8)) f (ds.map (Value.int .u8)) = (ovr zs f ds).map (Value.int .u8) := by
  simp [splice, ovr, List.map_take, List.map_drop]
theorem ovr_range {zs ds : List Int} {f : Nat} (hz : ∀ z ∈ zs, 0 ≤ z ∧ z ≤ 255) (hd : ∀ z ∈ ds, 0 ≤ z ∧ z ≤ 255) : ∀ z ∈ ovr zs f ds, 0 ≤ z ∧ z ≤ 255 := fun z h => by
  unfold ovr at h
  rcases List.mem_append.1 h with h | h
  · exact hz z (List.mem_of_mem_take h)
  · rcases List.mem_append.1 h with h | h
    · exact hd z h
    · exact hz z (List.mem_of_mem_drop h)
theorem ovr_nil (zs : List Int) (f : Nat) : ovr zs f [] = zs := by simp [ovr]
theorem only_setRow (g : Nat) (w : World) (cs : Array Value) : Only g w (w.setRow g cs) := ⟨by simp [World.setRow], fun k hk => setRow_other w g k cs hk, rfl, rfl, rfl⟩
theorem ob_of_row {W : World} {base g n : Nat} {zs : List Int} (h : W.heap[g]? = some (.cells (zs.map (Value.int .u8)).toArray 5 (0, 0))) (hl : zs.length = n) (hg : base ≤ g) (hm : n ≤ maxLen) (hr : ∀ z ∈ zs, 0 ≤ z ∧ z ≤ 255) : OB W base (.slice (some ⟨g, 0, none⟩) n n) zs := by
  subst hl
  refine ⟨⟨by simp, .inr ⟨g, zs.length, _, rfl, hg, h, Nat.le_refl _, hm, by simp, ?_⟩⟩, hr⟩
  simp only [List.toList_toArray, Nat.mul_one]
  exact List.take_of_length_le (by simp)
/-- what copy does to a row of bytes -/
theorem copy_run {W : World} {base g n f : Nat} {zs ds : List Int} (ho : OB W base (.slice (some ⟨g, 0, none⟩) n n) zs) (ty : TypeId) (dp sp : Option Addr) (dLen dCap sLen sCap : Nat) (hds : BS W sp sLen sCap ds) (hle : sLen ≤ dLen) (hfit : f + sLen ≤ n) (hpos : 0 < sLen → dp = some ⟨g, f, none⟩) :
    ∃ w', (Builtin.copy_ #[41, 41] ty #[.slice dp dLen dCap, .slice sp sLen sCap]).run Tryz.prog W = .ok (goInt sLen) w' ∧ OB w' base (.slice (some ⟨g, 0, none⟩) n n) (ovr zs f ds) ∧ Only g W w' := by
  obtain ⟨hrow, hlz, hg, hm⟩ := ob_row8 ho
  have hld := hds.1
  have hi8 : (Tryz.prog.info? 5).map (·.size) = some 1 := by kernel_rfl
  by_cases h0 : sLen = 0
  · subst h0
    obtain rfl : ds = [] := List.eq_nil_of_length_eq_zero hld
    exact ⟨W, run_copy_none (P := Tryz.prog) W _ _ ty 5 dp sp dLen dCap 0 sCap Tryz.underlying41 hi8 (by simp), by rw [ovr_nil]; exact ho, only_refl _ _⟩
  · obtain ⟨b, off, rfl, hc⟩ := hds.2.2.2.1 h0
    rw [hpos (by omega)]
    subst hld
    have hrun := run_copy_row (P := Tryz.prog) W 41 41 ty 5 g f dLen dCap ⟨b, off, none⟩ ds.length sCap (zs.map (Value.int .u8)).toArray 5 (ds.map (Value.int .u8)) Tryz.underlying41 hi8 hrow (by rw [List.length_map]; exact (Nat.min_eq_left hle).symm) (fun j v hj => by
      have hjl : j < ds.length := by
        rcases Nat.lt_or_ge j ds.length with h1 | h1
        · exact h1
        · rw [List.getElem?_eq_none (by simp; omega)] at hj; cases hj
      rw [addr_add, hc j hjl, ← hj]
      simp [List.getD_eq_getElem?_getD, show j < ds.length by omega]) (by simp; omega) (fun v hv => by
      simp at hv
      obtain ⟨z, _, rfl⟩ := hv
      rfl)
    rw [List.length_map] at hrun
    refine ⟨_, hrun, ?_, only_setRow _ _ _⟩
    refine ob_of_row ?_ (by rw [ovr_len _ _ _ (by omega)]; exact hlz) hg hm (ovr_range ho.2 hds.2.2.1)
    have := setRow_heap W g (zs.map (Value.int .u8)).toArray (splice (zs.map (Value.int .u8)) f (ds.map (Value.int .u8))).toArray 5 (0, 0) hrow
    rw [ovr_map] at this
    rw [← ovr_map] at this ⊢
    simpa [splice] using this
theorem step_copy_ob {ops : Array Oper} {o : Oper} {a : Act} {W : World} {K : Act → World → Prop} {Q : Exit → Act → World → Prop} {E : Prop} {base g n f : Nat} {zs ds : List Int} (ho : OB W base (.slice (some ⟨g, 0, none⟩) n n) zs) (hgd : o.guard = none) (d s : Operand)
    (hop : o.op = .call { callee := .builtin .copy, args := #[d, s], argTypes := #[41, 41] }) (dp sp : Option Addr) (dLen dCap sLen sCap : Nat) (hd : a.eval d = .slice dp dLen dCap) (hs : a.eval s = .slice sp sLen sCap) (hds : BS W sp sLen sCap ds) (hle : sLen ≤ dLen) (hfit : f + sLen ≤ n) (hpos : 0 < sLen → dp = some ⟨g, f, none⟩)
    (h : ∀ w', OB w' base (.slice (some ⟨g, 0, none⟩) n n) (ovr zs f ds) → Only g W w' → K (a.put o.dst (goInt sLen)) w') : if Region.wanted o (yielded ops a.tmps) = true then Oper.wp Tryz.prog o a W K Q else E := by
  have hw : Region.wanted o (yielded ops a.tmps) = true := by simp [Region.wanted, hgd]
  rw [if_pos hw]
  obtain ⟨w', hrun, h1, h2⟩ := copy_run ho o.type dp sp dLen dCap sLen sCap hds hle hfit hpos
  unfold Oper.wp
  simp [execOp, hop, resolve, invoke, builtin, hd, hs, hrun, Result.andThen]
  exact h _ h1 h2
theorem wpList_copy_ob {ops : Array Oper} {rest : List Oper} {o : Oper} {a : Act} {W : World} {Q : Exit → Act → World → Prop} {base g n f : Nat} {zs ds : List Int} (ho : OB W base (.slice (some ⟨g, 0, none⟩) n n) zs) (hgd : o.guard = none) (d s : Operand)
    (hop : o.op = .call { callee := .builtin .copy, args := #[d, s], argTypes := #[41, 41] }) (dp sp : Option Addr) (dLen dCap sLen sCap : Nat) (hd : a.eval d = .slice dp dLen dCap) (hs : a.eval s = .slice sp sLen sCap) (hds : BS W sp sLen sCap ds) (hle : sLen ≤ dLen) (hfit : f + sLen ≤ n) (hpos : 0 < sLen → dp = some ⟨g, f, none⟩)
    (h : ∀ w', OB w' base (.slice (some ⟨g, 0, none⟩) n n) (ovr zs f ds) → Only g W w' → wpList Tryz.prog ops Q rest (a.put o.dst (goInt sLen)) w') : wpList Tryz.prog ops Q (o :: rest) a W := by
  refine wpList_plain hgd fun K hK => ?_
  obtain ⟨w', hrun, h1, h2⟩ := copy_run ho o.type dp sp dLen dCap sLen sCap hds hle hfit hpos
  unfold Oper.wp
  simp [execOp, hop, resolve, invoke, builtin, hd, hs, hrun, Result.andThen]
  exact hK _ _ (h _ h1 h2)
end Go.Proofs.YtngdgogjlpjjpaeGreat
