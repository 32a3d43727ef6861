import Derived.Test.YtngdgogjlpjjpacWf
import Derived.Test.YtngdgogjlpjjpacTurn
namespace Go.Proofs.Ytngdgogjlpjjpac
open Go.RowKit
set_option linter.unusedVariables false

theorem ob_addr' {w : World} {base n cap : Nat} {a : Option Addr} {zs : List Int} (h : OB w base (.slice a n cap) zs) (hn : n ≠ 0) : ∃ g, a = some ⟨g, 0, none⟩ := by
  obtain ⟨hl, ⟨h0', _⟩ | ⟨g, cap', cur, hv, _⟩⟩ := h.1
  · simp at h0'; exact absurd h0'.2.1 hn
  · simp at hv; exact ⟨g, hv.1⟩
theorem ob_room2 {w : World} {base g n cap m : Nat} {zs : List Int} (h : OB w base (.slice (some ⟨g, 0, none⟩) n cap) zs) (hm : m ≤ n) : Room w g m := by
  obtain ⟨cur, hb, hn⟩ := ob_room h
  exact ⟨cur, hb, by omega⟩

/-- WHAT writeInto LEAVES: the three slices lie at cells o, o + 1, o + 2 of block g. -/
def WiPost (w : World) (g o : Nat) (cs : Array Value) (t : TypeId) (base : Nat) (v1 v2 v3 : Value) (r : List Int × List Int × List Int × Int) (e : Ending) (w' : World) : Prop :=
  ∃ a3 m3 d3, e = .returned (.int .i64 r.2.2.2) ∧ Blk w' g (cs.setIfInBounds (o + 2) (.slice a3 m3 d3)) t ∧ Own3 w' base v1 v2 (.slice a3 m3 d3) r.1 r.2.1 r.2.2.1 ∧ (Value.slice a3 m3 d3).ownBlock ≠ some g ∧ Turn (fun j => j = g ∨ v2.ownBlock = some j ∨ v3.ownBlock = some j) w w'

theorem set_same {cs : Array Value} {i : Nat} {v : Value} (h : cs[i]? = some v) : cs.setIfInBounds i v = cs := by
  apply Array.ext_getElem?
  intro j
  rw [Array.getElem?_setIfInBounds]
  split
  · next e =>
    subst e
    split
    · exact h.symm
    · next hl => rw [Array.getElem?_eq_none (by omega)] at h; cases h
  · rfl

/-- the bytes behind Out, at cell o + 2 of block g -/
theorem own_out {W W' : World} {base g o : Nat} {cs : Array Value} {t : TypeId} {v1 v2 v3 v' : Value} {x1 x2 x3 : List Int} {z : Int} (hk : Blk W g cs t) (ht : t ≠ 5) (h3 : Own3 W base v1 v2 v3 x1 x2 x3)
    (far : ∀ v, v = v1 ∨ v = v2 ∨ v = v3 → v.ownBlock ≠ some g) (hz : 0 ≤ z ∧ z ≤ 255)
    (bs : Nat) (hbs : base ≤ bs) (h1 : ∀ k, v1.ownBlock = some k → k < bs) (h2 : ∀ k, v2.ownBlock = some k → k < bs)
    (ho : W'.ownsRow bs 5 1 v' (x3.length + 1) (x3.map (Value.int .u8) ++ [Value.int .u8 z])) (hg : (W.alloc (.cells #[.int .u8 z] 5)).grownBy W' v3.ownBlock) :
    Blk (W'.setCell ⟨g, o + 2, none⟩ v') g (cs.setIfInBounds (o + 2) v') t ∧ Own3 (W'.setCell ⟨g, o + 2, none⟩ v') base v1 v2 v' x1 x2 (x3 ++ [z]) ∧ v'.ownBlock ≠ some g ∧ Turn (fun j => j = g ∨ v2.ownBlock = some j ∨ v3.ownBlock = some j) W (W'.setCell ⟨g, o + 2, none⟩ v') := by
  have f1 : v1.ownBlock = none ∨ v1.ownBlock ≠ v3.ownBlock := by
    cases e : v1.ownBlock with
    | none => exact Or.inl rfl
    | some k => right; intro e'; exact Nat.lt_irrefl _ (h3.2.2.2.2.1 k k e e'.symm)
  have f2 : v2.ownBlock = none ∨ v2.ownBlock ≠ v3.ownBlock := by
    cases e : v2.ownBlock with
    | none => exact Or.inl rfl
    | some k => right; intro e'; exact Nat.lt_irrefl _ (h3.2.2.2.2.2 k k e e'.symm)
  have ko := grown_blk hg (hk.alloc (.cells #[.int .u8 z] 5)) (fun e => far v3 (Or.inr (Or.inr rfl)) e.symm)
  have hfar : v'.ownBlock ≠ some g := by
    intro e
    obtain ⟨_, ⟨rfl, _⟩ | ⟨g', cap, cur, rfl, hgg, hh, _⟩⟩ := ho
    · simp [Value.ownBlock] at e
    · simp [Value.ownBlock] at e
      subst e
      unfold Blk at ko
      rw [ko] at hh
      simp at hh
      exact ht hh.2
  have o1 := grown_ob hg (own3_alloc h3 (.cells #[.int .u8 z] 5)).1 f1
  have o2 := grown_ob hg (own3_alloc h3 (.cells #[.int .u8 z] 5)).2.1 f2
  have o3 : OB W' bs v' (x3 ++ [z]) := ⟨by simpa using ho, fun y hy => by
    rcases List.mem_append.1 hy with hy | hy
    · exact h3.2.2.1.2 y hy
    · simp at hy; subst hy; exact hz⟩
  refine ⟨ko.set (o + 2) v', ⟨?_, ?_, ?_, h3.2.2.2.1, ?_, ?_⟩, hfar, ?_⟩
  · exact ob_far (g := g) o1 _ _ (far v1 (Or.inl rfl))
  · exact ob_far (g := g) o2 _ _ (far v2 (Or.inr (Or.inl rfl)))
  · exact (ob_far (g := g) o3 _ _ hfar).mono hbs
  · intro k j hk hj
    have := h1 k hk
    have := o3.lt j hj
    omega
  · intro k j hk hj
    have := h2 k hk
    have := o3.lt j hj
    omega
  · have t1 : Turn (fun j => j = g ∨ v2.ownBlock = some j ∨ v3.ownBlock = some j) W (W.alloc (.cells #[.int .u8 z] 5)) := turn_alloc W _
    have t2 : Turn (fun j => j = g ∨ v2.ownBlock = some j ∨ v3.ownBlock = some j) (W.alloc (.cells #[.int .u8 z] 5)) W' :=
      ⟨hg.os, hg.tape, hg.output, hg.size, fun k hk hn => hg.block k hk (fun e => hn (Or.inr (Or.inr e.symm)))⟩
    have t3 : Turn (fun j => j = g ∨ v2.ownBlock = some j ∨ v3.ownBlock = some j) W' (W'.setCell ⟨g, o + 2, none⟩ v') :=
      ⟨rfl, rfl, rfl, by rw [size_setCell]; exact Nat.le_refl _, fun j hj hs => heap_setCell_other _ _ _ _ (fun e => hs (Or.inl e))⟩
    exact (t1.trans t2).trans t3
/-- where the bytes behind Out may lie -/
theorem own_base {W : World} {base : Nat} {v1 v2 v3 : Value} {x1 x2 x3 : List Int} (h : Own3 W base v1 v2 v3 x1 x2 x3) (hb : base ≤ W.heap.size) :
    ∃ bs, base ≤ bs ∧ bs ≤ W.heap.size ∧ (∀ k, v1.ownBlock = some k → k < bs) ∧ (∀ k, v2.ownBlock = some k → k < bs) ∧ W.ownsRow bs 5 1 v3 x3.length (x3.map (Value.int .u8)) := by
  obtain ⟨hl, ⟨h0, h0'⟩ | ⟨g, cap, cur, hv, hg, hh, a1, a2, a3, a4⟩⟩ := h.2.2.1.1
  · exact ⟨W.heap.size, hb, Nat.le_refl _, fun k hk => (h.1.lt k hk).2, fun k hk => (h.2.1.lt k hk).2, hl, .inl ⟨h0, h0'⟩⟩
  · exact ⟨g, hg, Nat.le_of_lt (Blk.lt (w := W) hh), fun k hk => h.2.2.2.2.1 k g hk (by rw [hv]; rfl), fun k hk => h.2.2.2.2.2 k g hk (by rw [hv]; rfl), hl, .inr ⟨g, cap, cur, hv, Nat.le_refl _, hh, a1, a2, a3, a4⟩⟩
/-- bytes of Ram put -/
theorem own_ram {W W' : World} {base g gg : Nat} {v1 v3 : Value} {n cap : Nat} {x1 x2 y2 x3 : List Int} (h3 : Own3 W base v1 (.slice (some ⟨g, 0, none⟩) n cap) v3 x1 x2 x3)
    (ho : Only g W W') (hy : OB W' base (.slice (some ⟨g, 0, none⟩) n cap) y2) : Own3 W' base v1 (.slice (some ⟨g, 0, none⟩) n cap) v3 x1 y2 x3 ∧ Turn (fun j => j = gg ∨ (Value.slice (some ⟨g, 0, none⟩) n cap).ownBlock = some j ∨ v3.ownBlock = some j) W W' := by
  refine ⟨⟨?_, hy, ?_, h3.2.2.2⟩, ?_⟩
  · exact only_ob ho h3.1 (fun e => Nat.lt_irrefl _ (h3.2.2.2.1 g g e rfl))
  · exact only_ob ho h3.2.2.1 (fun e => Nat.lt_irrefl _ (h3.2.2.2.2.2 g g rfl e))
  · obtain ⟨e1, e2, e3, e4, e5⟩ := ho
    refine ⟨by assumption, by assumption, by assumption, by omega, fun k hk hn => e2 k (fun e => hn (Or.inr (Or.inl (by rw [e]; rfl))))⟩

set_option maxHeartbeats 1000000 in
theorem writeInto_fault (a1 a2 a3 : Option Addr) (n1 c1 n2 c2 n3 c3 g o : Nat) (p s v : Int) (w : World) (h1 : w.cell? ⟨g, o, none⟩ = some (.slice a1 n1 c1)) (h2 : w.cell? ⟨g, o + 1, none⟩ = some (.slice a2 n2 c2)) (h3 : w.cell? ⟨g, o + 2, none⟩ = some (.slice a3 n3 c3)) (hmax : p ≤ 9223372036854775807) (hf : wff n1 n2 n3 p s ≠ 0) :
    Calls Try.prog 48 #[.pointer (some ⟨g, o, none⟩), .int .i64 p, .int .i64 s, .int .i64 v] w fun e w' => e = .returned (.int .i64 (wff n1 n2 n3 p s)) ∧ Below w.heap.size w w' := by
  have HF := hide (fun w => writeFault_any a1 a2 a3 n1 c1 n2 c2 n3 c3 p s w hmax)
  generalize wff n1 n2 n3 p s = f at *
  have hf' : (f != 0) = true := by simpa using hf
  clear hf
  go_enter Try.func48, Try.ntmps48
  go_wp2_with fail
  refine (HF.out _).mono ?_
  rintro e w1 ⟨rfl, hb1⟩
  go_wp2
  go_ret
  exact ⟨rfl, hb1⟩
end Go.Proofs.Ytngdgogjlpjjpac
