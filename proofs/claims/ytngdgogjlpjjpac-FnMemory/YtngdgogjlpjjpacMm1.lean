import Derived.Test.YtngdgogjlpjjpacDr1
import Derived.Test.YtngdgogjlpjjpacWr4
import Derived.Deep.RegionLaw
import Derived.Deep.AppendLies
namespace Go.Proofs.Ytngdgogjlpjjpac
open Go.RowKit
set_option linter.unusedVariables false
set_option linter.unusedSimpArgs false
set_option maxRecDepth 100000

/-- THE STATE OF l1Mem: its result's block, the memory at G with three slices of its own, the reader. -/
structure Ms (w W : World) (r : Nat) (a : Option Addr) (n c : Nat) (zs : List Int) (kk G : Nat) (v1 v2 v3 : Value) (y1 y2 y3 : List Int) : Prop where
  res : Blk W w.heap.size #[.slice none 0 0, .slice none 0 0, .slice none 0 0] 24
  box : Blk W G #[v1, v2, v3] 24
  o1 : OB W (w.heap.size + 1) v1 y1
  o2 : OB W (w.heap.size + 1) v2 y2
  o3 : OB W (w.heap.size + 1) v3 y3
  a12 : ∀ k, v1.ownBlock = some k → v2.ownBlock ≠ some k
  a13 : ∀ k, v1.ownBlock = some k → v3.ownBlock ≠ some k
  a23 : ∀ k, v2.ownBlock = some k → v3.ownBlock ≠ some k
  g1 : v1.ownBlock ≠ some G
  g2 : v2.ownBlock ≠ some G
  g3 : v3.ownBlock ≠ some G
  rd : Rdr W r a n c zs kk
  turn : Turn (fun j => j = r) w W
  big : w.heap.size < G
  low : r < w.heap.size
  code : n ≠ 0 → ∀ b off, a = some ⟨b, off, none⟩ → b < w.heap.size

/-- another byte is read -/
theorem Ms.next {w W W' : World} {r : Nat} {a : Option Addr} {n c : Nat} {zs : List Int} {kk k2 G : Nat} {v1 v2 v3 : Value} {y1 y2 y3 : List Int} (h : Ms w W r a n c zs kk G v1 v2 v3 y1 y2 y3) (hr : Rdr W' r a n c zs k2) (t : Turn (fun j => j = r) W W') : Ms w W' r a n c zs k2 G v1 v2 v3 y1 y2 y3 := by
  have hb := h.big
  have hl := h.low
  have f : ∀ v y, OB W (w.heap.size + 1) v y → OB W' (w.heap.size + 1) v y := fun v y ho => turn_ob t ho (fun k hk e => by have := (ho.lt k hk).1; omega)
  exact ⟨turn_blk t h.res (by omega), turn_blk t h.box (by omega), f _ _ h.o1, f _ _ h.o2, f _ _ h.o3, h.a12, h.a13, h.a23, h.g1, h.g2, h.g3, hr, h.turn.trans t, hb, hl, h.code⟩
theorem Ms.more {w W : World} {r : Nat} {a : Option Addr} {n c : Nat} {zs : List Int} {kk G : Nat} {v1 v2 v3 : Value} {y1 y2 y3 : List Int} (h : Ms w W r a n c zs kk G v1 v2 v3 y1 y2 y3) (O : Obj) : Ms w (W.alloc O) r a n c zs kk G v1 v2 v3 y1 y2 y3 := by
  have b : Below W.heap.size W (W.alloc O) := (Below.refl _ _).alloc (Nat.le_refl _) O
  exact ⟨h.res.alloc O, h.box.alloc O, h.o1.below b, h.o2.below b, h.o3.below b, h.a12, h.a13, h.a23, h.g1, h.g2, h.g3, rdr_below h.rd b, h.turn.trans (turn_alloc W O), h.big, h.low, h.code⟩
theorem Ms.drew {w W : World} {r : Nat} {a : Option Addr} {n c : Nat} {zs : List Int} {kk G : Nat} {v1 v2 v3 : Value} {y1 y2 y3 : List Int} (h : Ms w W r a n c zs kk G v1 v2 v3 y1 y2 y3) : Rdr W.drew r a n c zs kk := ⟨h.rd.blk, h.rd.bs, h.rd.small, h.rd.far⟩

/-- one slice has grown by an append -/
theorem grown_rdr {W W' : World} {row : Option Nat} {r : Nat} {a : Option Addr} {n c : Nat} {zs : List Int} {kk : Nat} (hg : W.grownBy W' row) (h : Rdr W r a n c zs kk) (hr : row ≠ some r) (hc : n ≠ 0 → ∀ b off, a = some ⟨b, off, none⟩ → row ≠ some b) : Rdr W' r a n c zs kk :=
  ⟨grown_blk hg h.blk (fun e => hr e.symm), by
    have t : Turn (fun j => row = some j) W W' := ⟨hg.os, hg.tape, hg.output, hg.size, fun k hk hn => hg.block k hk (fun e => hn e.symm)⟩
    exact turn_bs' t h.bs (fun h0 k hk b off e eb => hc h0 b off e (by rw [eb]; exact hk)), h.small, h.far⟩
theorem Ms.flash {w W W' : World} {r : Nat} {a : Option Addr} {n c : Nat} {zs : List Int} {kk G : Nat} {v1 v2 v3 : Value} {y1 y2 y3 : List Int} (h : Ms w W r a n c zs kk G v1 v2 v3 y1 y2 y3) (z : Int) (hz : 0 ≤ z ∧ z ≤ 255) (g cap H : Nat)
    (ho : W'.ownsRow (w.heap.size + 1) 5 1 (.slice (some ⟨g, 0, none⟩) (y1.length + 1) cap) (y1.length + 1) (y1.map (Value.int .u8) ++ [Value.int .u8 z])) (hg : W.grownBy W' v1.ownBlock) (hat : v1.ownBlock = some g ∨ g = H) (hH : H = W.heap.size) :
    Ms w (W'.setCell ⟨G, 0, none⟩ (.slice (some ⟨g, 0, none⟩) (y1.length + 1) cap)) r a n c zs kk G (.slice (some ⟨g, 0, none⟩) (y1.length + 1) cap) v2 v3 (y1 ++ [z]) y2 y3 := by
  have hb := h.big
  have hl := h.low
  have eo : (Value.slice (some ⟨g, 0, none⟩) (y1.length + 1) cap).ownBlock = some g := rfl
  have e1 : ∀ k, v1.ownBlock = some k → w.heap.size + 1 ≤ k := fun k hk => (h.o1.lt k hk).1
  have f2 : v2.ownBlock = none ∨ v2.ownBlock ≠ v1.ownBlock := by
    cases e : v2.ownBlock with
    | none => exact Or.inl rfl
    | some k => right; intro e'; exact h.a12 k e'.symm e
  have f3 : v3.ownBlock = none ∨ v3.ownBlock ≠ v1.ownBlock := by
    cases e : v3.ownBlock with
    | none => exact Or.inl rfl
    | some k => right; intro e'; exact h.a13 k e'.symm e
  have hgG : g ≠ G := by
    rcases hat with e | e
    · intro e'; exact h.g1 (by rw [e, e'])
    · have := h.box.lt; omega
  have n2 : v2.ownBlock ≠ some g := by
    intro e
    rcases hat with e' | e'
    · exact h.a12 g e' e
    · have := (h.o2.lt g e).2; omega
  have n3 : v3.ownBlock ≠ some g := by
    intro e
    rcases hat with e' | e'
    · exact h.a13 g e' e
    · have := (h.o3.lt g e).2; omega
  have kr := grown_blk hg h.res (fun e => by have := e1 _ e.symm; omega)
  have kb := grown_blk hg h.box (fun e => h.g1 e.symm)
  have q2 := grown_ob hg h.o2 f2
  have q3 := grown_ob hg h.o3 f3
  have q1 : OB W' (w.heap.size + 1) (.slice (some ⟨g, 0, none⟩) (y1.length + 1) cap) (y1 ++ [z]) := ⟨by simpa using ho, fun y hy => by
    rcases List.mem_append.1 hy with hy | hy
    · exact h.o1.2 y hy
    · simp at hy; subst hy; exact hz⟩
  have rd := grown_rdr hg h.rd (fun e => by have := e1 _ e; omega) (fun h0 b off ea e => by have := e1 _ e; have := h.code h0 b off ea; omega)
  have t : Turn (fun j => j = r) w W' := by
    refine ⟨hg.os.trans h.turn.os, hg.tape.trans h.turn.tape, hg.output.trans h.turn.output, Nat.le_trans h.turn.size hg.size, fun k hk hn => ?_⟩
    rw [hg.block k (Nat.lt_of_lt_of_le hk h.turn.size) (fun e => by have := e1 _ e.symm; omega)]
    exact h.turn.block k hk hn
  refine ⟨kr.other _ _ (by dsimp only; omega), ?_, ob_far (g := G) q1 _ _ (by rw [eo]; intro e; injection e with e; exact hgG e), ob_far (g := G) q2 _ _ h.g2, ob_far (g := G) q3 _ _ h.g3, ?_, ?_, h.a23, ?_, h.g2, h.g3, ?_, ?_, hb, hl, h.code⟩
  · have := kb.set 0 (.slice (some ⟨g, 0, none⟩) (y1.length + 1) cap)
    simpa using this
  · intro k hk; rw [eo] at hk; injection hk with hk; subst hk; exact n2
  · intro k hk; rw [eo] at hk; injection hk with hk; subst hk; exact n3
  · rw [eo]; intro e; injection e with e; exact hgG e
  · exact ⟨rd.blk.other _ _ (by dsimp only; omega), turn_bs' (turn_set W' G 0 _) rd.bs (fun h0 k hk b off e => by subst hk; have := h.code h0 b off e; omega), rd.small, rd.far⟩
  · exact ⟨t.os, t.tape, t.output, by rw [size_setCell]; exact t.size, fun k hk hn => by rw [heap_setCell_other _ _ _ _ (by dsimp only; omega)]; exact t.block k hk hn⟩
theorem Ms.ram {w W W' : World} {r : Nat} {a : Option Addr} {n c : Nat} {zs : List Int} {kk G : Nat} {v1 v2 v3 : Value} {y1 y2 y3 : List Int} (h : Ms w W r a n c zs kk G v1 v2 v3 y1 y2 y3) (z : Int) (hz : 0 ≤ z ∧ z ≤ 255) (g cap H : Nat)
    (ho : W'.ownsRow (w.heap.size + 1) 5 1 (.slice (some ⟨g, 0, none⟩) (y2.length + 1) cap) (y2.length + 1) (y2.map (Value.int .u8) ++ [Value.int .u8 z])) (hg : W.grownBy W' v2.ownBlock) (hat : v2.ownBlock = some g ∨ g = H) (hH : H = W.heap.size) :
    Ms w (W'.setCell ⟨G, 1, none⟩ (.slice (some ⟨g, 0, none⟩) (y2.length + 1) cap)) r a n c zs kk G v1 (.slice (some ⟨g, 0, none⟩) (y2.length + 1) cap) v3 y1 (y2 ++ [z]) y3 := by
  have hb := h.big
  have hl := h.low
  have eo : (Value.slice (some ⟨g, 0, none⟩) (y2.length + 1) cap).ownBlock = some g := rfl
  have e2 : ∀ k, v2.ownBlock = some k → w.heap.size + 1 ≤ k := fun k hk => (h.o2.lt k hk).1
  have f1 : v1.ownBlock = none ∨ v1.ownBlock ≠ v2.ownBlock := by
    cases e : v1.ownBlock with
    | none => exact Or.inl rfl
    | some k => right; intro e'; exact h.a12 k e e'.symm
  have f3 : v3.ownBlock = none ∨ v3.ownBlock ≠ v2.ownBlock := by
    cases e : v3.ownBlock with
    | none => exact Or.inl rfl
    | some k => right; intro e'; exact h.a23 k e'.symm e
  have hgG : g ≠ G := by
    rcases hat with e | e
    · intro e'; exact h.g2 (by rw [e, e'])
    · have := h.box.lt; omega
  have n1 : v1.ownBlock ≠ some g := by
    intro e
    rcases hat with e' | e'
    · exact h.a12 g e e'
    · have := (h.o1.lt g e).2; omega
  have n3 : v3.ownBlock ≠ some g := by
    intro e
    rcases hat with e' | e'
    · exact h.a23 g e' e
    · have := (h.o3.lt g e).2; omega
  have kr := grown_blk hg h.res (fun e => by have := e2 _ e.symm; omega)
  have kb := grown_blk hg h.box (fun e => h.g2 e.symm)
  have q1 := grown_ob hg h.o1 f1
  have q3 := grown_ob hg h.o3 f3
  have q2 : OB W' (w.heap.size + 1) (.slice (some ⟨g, 0, none⟩) (y2.length + 1) cap) (y2 ++ [z]) := ⟨by simpa using ho, fun y hy => by
    rcases List.mem_append.1 hy with hy | hy
    · exact h.o2.2 y hy
    · simp at hy; subst hy; exact hz⟩
  have rd := grown_rdr hg h.rd (fun e => by have := e2 _ e; omega) (fun h0 b off ea e => by have := e2 _ e; have := h.code h0 b off ea; omega)
  have t : Turn (fun j => j = r) w W' := by
    refine ⟨hg.os.trans h.turn.os, hg.tape.trans h.turn.tape, hg.output.trans h.turn.output, Nat.le_trans h.turn.size hg.size, fun k hk hn => ?_⟩
    rw [hg.block k (Nat.lt_of_lt_of_le hk h.turn.size) (fun e => by have := e2 _ e.symm; omega)]
    exact h.turn.block k hk hn
  refine ⟨kr.other _ _ (by dsimp only; omega), ?_, ob_far (g := G) q1 _ _ h.g1, ob_far (g := G) q2 _ _ (by rw [eo]; intro e; injection e with e; exact hgG e), ob_far (g := G) q3 _ _ h.g3, ?_, h.a13, ?_, h.g1, ?_, h.g3, ?_, ?_, hb, hl, h.code⟩
  · have := kb.set 1 (.slice (some ⟨g, 0, none⟩) (y2.length + 1) cap)
    simpa using this
  · intro k hk e; rw [eo] at e; injection e with e; subst e; exact n1 hk
  · intro k hk; rw [eo] at hk; injection hk with hk; subst hk; exact n3
  · rw [eo]; intro e; injection e with e; exact hgG e
  · exact ⟨rd.blk.other _ _ (by dsimp only; omega), turn_bs' (turn_set W' G 1 _) rd.bs (fun h0 k hk b off e => by subst hk; have := h.code h0 b off e; omega), rd.small, rd.far⟩
  · exact ⟨t.os, t.tape, t.output, by rw [size_setCell]; exact t.size, fun k hk hn => by rw [heap_setCell_other _ _ _ _ (by dsimp only; omega)]; exact t.block k hk hn⟩
end Go.Proofs.Ytngdgogjlpjjpac
