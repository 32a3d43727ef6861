import Derived.Test.YtngdgogjlpjjpacWr3
namespace Go.Proofs.Ytngdgogjlpjjpac
open Go.RowKit
set_option linter.unusedVariables false

theorem own3_below {w w' : World} {base : Nat} {v1 v2 v3 : Value} {x1 x2 x3 : List Int} (h : Own3 w base v1 v2 v3 x1 x2 x3) (hb : Below w.heap.size w w') : Own3 w' base v1 v2 v3 x1 x2 x3 :=
  ⟨h.1.below hb, h.2.1.below hb, h.2.2.1.below hb, h.2.2.2⟩
theorem own3_alloc {w : World} {base : Nat} {v1 v2 v3 : Value} {x1 x2 x3 : List Int} (h : Own3 w base v1 v2 v3 x1 x2 x3) (o : Obj) : Own3 (w.alloc o) base v1 v2 v3 x1 x2 x3 :=
  own3_below h ((Below.refl _ _).alloc (Nat.le_refl _) o)
theorem own3_other {w : World} {base : Nat} {v1 v2 v3 : Value} {x1 x2 x3 : List Int} (h : Own3 w base v1 v2 v3 x1 x2 x3) (a : Addr) (u : Value) (ha : a.block < base) : Own3 (w.setCell a u) base v1 v2 v3 x1 x2 x3 :=
  ⟨h.1.other a u ha, h.2.1.other a u ha, h.2.2.1.other a u ha, h.2.2.2⟩
theorem own3_mono {w : World} {base base' : Nat} {v1 v2 v3 : Value} {x1 x2 x3 : List Int} (h : Own3 w base v1 v2 v3 x1 x2 x3) (hb : base' ≤ base) : Own3 w base' v1 v2 v3 x1 x2 x3 :=
  ⟨h.1.mono hb, h.2.1.mono hb, h.2.2.1.mono hb, h.2.2.2⟩
theorem ob_far {w : World} {base g : Nat} {v : Value} {zs : List Int} (h : OB w base v zs) (a : Addr) (u : Value) (ha : v.ownBlock ≠ some a.block) : OB (w.setCell a u) base v zs := by
  refine ⟨?_, h.2⟩
  obtain ⟨hl, h0 | ⟨g', cap, cur, rfl, hg, hh, h1, h2, h3, h4⟩⟩ := h.1
  · exact ⟨hl, .inl h0⟩
  · exact ⟨hl, .inr ⟨g', cap, cur, rfl, hg, Blk.other (w := w) hh a u (by intro e; apply ha; rw [← e]; rfl), h1, h2, h3, h4⟩⟩
theorem grown_blk {w w' : World} {row : Option Nat} {k : Nat} {cs : Array Value} {t : TypeId} (hg : w.grownBy w' row) (h : Blk w k cs t) (hk : some k ≠ row) : Blk w' k cs t := by
  have := hg.block k h.lt hk
  unfold Blk at *; rw [this]; exact h
theorem grown_ob {w w' : World} {row : Option Nat} {base : Nat} {v : Value} {zs : List Int} (hg : w.grownBy w' row) (h : OB w base v zs) (hk : v.ownBlock = none ∨ v.ownBlock ≠ row) : OB w' base v zs :=
  ⟨h.1.kept hg hk, h.2⟩

/-- WHAT Write ANSWERS. -/
def wrm (n1 n2 n3 : Nat) (x1 x2 x3 : List Int) (p s v : Int) : List Int × List Int × List Int × Int :=
  if mok n1 n2 n3 = true ∧ wd s = true then
    if (p.tmod s != 0) = true then (x1, x2, x3, 1)
    else if p = 131072 then (if 5000 ≤ n3 then (x1, x2, x3, 4) else (x1, x2, x3 ++ [v % 256], 0))
      else if ins p s 0 n1 = true then (x1, x2, x3, 3)
      else if ins p s 65536 n2 = true then (x1, put x2 (p - 65536).toNat v s.toNat, x3, 0) else (x1, x2, x3, 2)
  else (x1, x2, x3, 2)

def WrPost (w : World) (r : List Int × List Int × List Int × Int) (e : Ending) (w' : World) : Prop :=
  ∃ a1 m1 d1 a2 m2 d2 a3 m3 d3, e = .returned (.tuple #[.agg #[.slice a1 m1 d1, .slice a2 m2 d2, .slice a3 m3 d3], .int .i64 r.2.2.2]) ∧ Own3 w' w.heap.size (.slice a1 m1 d1) (.slice a2 m2 d2) (.slice a3 m3 d3) r.1 r.2.1 r.2.2.1 ∧ Below w.heap.size w w'

/-- THE WORLD AS Write HOLDS IT: its box, its result's block, its own copy at 'go', and the bytes. -/
structure Hold (w W : World) (base go : Nat) (bx : Array Value) (v1 v2 v3 : Value) (x1 x2 x3 : List Int) : Prop where
  below : Below w.heap.size w W
  big : w.heap.size + 2 ≤ base
  gobig : base ≤ go
  box : Blk W w.heap.size bx 24
  res : Blk W (w.heap.size + 1) #[.slice none 0 0, .slice none 0 0, .slice none 0 0] 24
  out : Blk W go #[v1, v2, v3] 24
  own : Own3 W base v1 v2 v3 x1 x2 x3
  far : ∀ v, v = v1 ∨ v = v2 ∨ v = v3 → v.ownBlock ≠ some go
theorem Hold.step {w W W' : World} {base go : Nat} {bx : Array Value} {v1 v2 v3 : Value} {x1 x2 x3 : List Int} (h : Hold w W base go bx v1 v2 v3 x1 x2 x3) (hb : Below W.heap.size W W') : Hold w W' base go bx v1 v2 v3 x1 x2 x3 :=
  ⟨h.below.trans (hb.mono h.below.size), h.big, h.gobig, h.box.below hb, h.res.below hb, h.out.below hb, own3_below h.own hb, h.far⟩

def resW (W : World) (g : Nat) (v1 v2 v3 : Value) : World := ((W.setCell ⟨g, 0, none⟩ v1).setCell ⟨g, 1, none⟩ v2).setCell ⟨g, 2, none⟩ v3
theorem Hold.done {w W : World} {base go : Nat} {bx : Array Value} {v1 v2 v3 : Value} {x1 x2 x3 : List Int} (h : Hold w W base go bx v1 v2 v3 x1 x2 x3) :
    Own3 (resW W (w.heap.size + 1) v1 v2 v3) w.heap.size v1 v2 v3 x1 x2 x3 ∧ Below w.heap.size w (resW W (w.heap.size + 1) v1 v2 v3) := by
  have hb := h.big
  exact ⟨own3_mono (own3_other (own3_other (own3_other h.own _ _ (by dsimp only; omega)) _ _ (by dsimp only; omega)) _ _ (by dsimp only; omega)) (by omega),
    ((h.below.setCell (by dsimp only; omega) _).setCell (by dsimp only; omega) _).setCell (by dsimp only; omega) _⟩
theorem turn_ob {S : Nat → Prop} {base : Nat} {w w' : World} {v : Value} {zs : List Int} (ht : Turn S w w') (h : OB w base v zs) (hk : ∀ k, v.ownBlock = some k → ¬ S k) : OB w' base v zs := by
  refine ⟨?_, h.2⟩
  obtain ⟨hl, h0 | ⟨g', cap, cur, rfl, hg, hh, h1, h2, h3, h4⟩⟩ := h.1
  · exact ⟨hl, .inl h0⟩
  · exact ⟨hl, .inr ⟨g', cap, cur, rfl, hg, turn_blk ht hh (hk g' rfl), h1, h2, h3, h4⟩⟩
end Go.Proofs.Ytngdgogjlpjjpac
