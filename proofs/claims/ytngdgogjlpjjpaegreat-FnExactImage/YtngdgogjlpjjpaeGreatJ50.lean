import Derived.Test.YtngdgogjlpjjpaeGreatJ49
namespace Go.Proofs.YtngdgogjlpjjpaeGreat
open Go.RowKit
set_option linter.unusedVariables false
set_option linter.unusedSimpArgs false
set_option maxRecDepth 100000

theorem cutI {S F : Nat → Option Addr → Nat → List PB → Option Addr → Nat → Option Addr → Nat → List TB → Nat → Option Addr → Nat → Nat → Option Addr → Nat → Nat → Option Addr → Nat → Nat → World → Prop} {G : Prop} (main : (∀ gm b0 d0 ys b2 d2 b5 d5 us gb p1 n1 q1 p2 n2 q2 p3 n3 q3 W, F gm b0 d0 ys b2 d2 b5 d5 us gb p1 n1 q1 p2 n2 q2 p3 n3 q3 W → S gm b0 d0 ys b2 d2 b5 d5 us gb p1 n1 q1 p2 n2 q2 p3 n3 q3 W) → G) (pf : ∀ gm b0 d0 ys b2 d2 b5 d5 us gb p1 n1 q1 p2 n2 q2 p3 n3 q3 W, F gm b0 d0 ys b2 d2 b5 d5 us gb p1 n1 q1 p2 n2 q2 p3 n3 q3 W → S gm b0 d0 ys b2 d2 b5 d5 us gb p1 n1 q1 p2 n2 q2 p3 n3 q3 W) : G := main pf
structure Z4 (zc : Array Value) (t : TypeId) (n : Nat) (ms : List Md) (L : Lay) (W0 X : World) (o : Option Nat) (g : Nat) (m : List Md) (b0 : Option Addr) (d0 : Nat) (ys : List PB) (b2 : Option Addr) (d2 : Nat) (b5 : Option Addr) (d5 : Nat) (us : List TB) : Prop where
  z : Z2 zc t n ms W0 X o g m
  y : LayO X W0.heap.size L b0 d0 ys b2 d2 b5 d5 us
section
variable {zc : Array Value} {t : TypeId} {n g : Nat} {ms m : List Md} {L : Lay} {W0 X Y : World} {o : Option Nat} {b0 : Option Addr} {d0 : Nat} {ys : List PB} {b2 : Option Addr} {d2 : Nat} {b5 : Option Addr} {d5 : Nat} {us : List TB}
theorem Z4.below (h : Z4 zc t n ms L W0 X o g m b0 d0 ys b2 d2 b5 d5 us) (hb : Below X.heap.size X Y) : Z4 zc t n ms L W0 Y o g m b0 d0 ys b2 d2 b5 d5 us := ⟨h.z.below hb, h.y.below' hb⟩
theorem Z4.drew (h : Z4 zc t n ms L W0 X o g m b0 d0 ys b2 d2 b5 d5 us) : Z4 zc t n ms L W0 X.drew o g m b0 d0 ys b2 d2 b5 d5 us := ⟨h.z.drew, h.y.below' (Below.refl _ _).drew⟩
theorem Z4.box (h : Z4 zc t n ms L W0 X none g m b0 d0 ys b2 d2 b5 d5 us) : Z4 zc t n ms L W0 (X.alloc (.cells zc t)) (some X.heap.size) g m b0 d0 ys b2 d2 b5 d5 us := ⟨h.z.box, h.y.below' ((Below.refl _ _).alloc (Nat.le_refl _) _)⟩
end
structure Z5 (ps : List PMod) (L : Lay) (W0 X : World) (o : Option Nat) (p1 : Option Addr) (n1 q1 : Nat) (p2 : Option Addr) (n2 q2 : Nat) (p3 : Option Addr) (n3 q3 : Nat) : Prop where
  z : Zb #[.slice none 0 0, .slice none 0 0, .slice none 0 0] 50 W0 X o
  m : ∃ b, W0.heap.size ≤ b ∧ OM X b (.slice p1 n1 q1) (.slice p2 n2 q2) (.slice p3 n3 q3) (imF ps L) (imR ps L) [] ∧ ∀ g, o = some g → g < b
structure Fin6 (ps : List PMod) (L : Lay) (W0 : World) (gb : Nat) (p1 : Option Addr) (n1 q1 : Nat) (p2 : Option Addr) (n2 q2 : Nat) (p3 : Option Addr) (n3 q3 : Nat) (W : World) : Prop where
  b : Below W0.heap.size W0 W
  g : W0.heap.size ≤ gb
  k : Blk W gb #[.slice p1 n1 q1, .slice p2 n2 q2, .slice p3 n3 q3] 50
  m : OM W W0.heap.size (.slice p1 n1 q1) (.slice p2 n2 q2) (.slice p3 n3 q3) (imF ps L) (imR ps L) []
section
variable {ps : List PMod} {L : Lay} {W0 X : World} {gb : Nat} {p1 : Option Addr} {n1 q1 : Nat} {p2 : Option Addr} {n2 q2 : Nat} {p3 : Option Addr} {n3 q3 : Nat}
theorem Z5.fin (h : Z5 ps L W0 X none p1 n1 q1 p2 n2 q2 p3 n3 q3) : Fin6 ps L W0 X.heap.size p1 n1 q1 p2 n2 q2 p3 n3 q3 (X.alloc (.cells #[.slice p1 n1 q1, .slice p2 n2 q2, .slice p3 n3 q3] 50)) := by
  have hb : Below X.heap.size X (X.alloc (.cells #[.slice p1 n1 q1, .slice p2 n2 q2, .slice p3 n3 q3] 50)) := (Below.refl _ _).alloc (Nat.le_refl _) _
  obtain ⟨b, h1, h2, _⟩ := h.m
  exact ⟨h.z.1.trans (hb.mono h.z.1.size), h.z.1.size, Blk.new X _ _, (h2.mono h1).below hb⟩
theorem Z5.fin' (h : Z5 ps L W0 X (some gb) p1 n1 q1 p2 n2 q2 p3 n3 q3) : Fin6 ps L W0 gb p1 n1 q1 p2 n2 q2 p3 n3 q3 (((X.setCell ⟨gb, 0, none⟩ (.slice p1 n1 q1)).setCell ⟨gb, 1, none⟩ (.slice p2 n2 q2)).setCell ⟨gb, 2, none⟩ (.slice p3 n3 q3)) := by
  obtain ⟨hg, hk⟩ := h.z.2 gb rfl
  have T : Turn (fun j => j = gb) X (((X.setCell ⟨gb, 0, none⟩ (.slice p1 n1 q1)).setCell ⟨gb, 1, none⟩ (.slice p2 n2 q2)).setCell ⟨gb, 2, none⟩ (.slice p3 n3 q3)) := ((turn_set _ _ _ _).trans (turn_set _ _ _ _)).trans (turn_set _ _ _ _)
  obtain ⟨b, h1, h2, h3⟩ := h.m
  have hgb := h3 gb rfl
  exact ⟨below_turn h.z.1 T (fun k e => by omega) h.z.1.size, hg, blk_set3 hk, (h2.kept T (fun j hj e => by have := (h2.lt hj).1; omega)).mono h1⟩
end
/-- what must stay: the argument's box, the first answer and its box -/
structure Km (cf : Array Value) (tc : TypeId) (base : Nat) (ps : List PMod) (L : Lay) (w W5 : World) (gb : Nat) (p1 : Option Addr) (n1 q1 : Nat) (p2 : Option Addr) (n2 q2 : Nat) (p3 : Option Addr) (n3 q3 : Nat) (W : World) : Prop where
  be : Below w.heap.size w W
  kc : Blk W w.heap.size cf tc
  kw : Blk W gb #[.slice p1 n1 q1, .slice p2 n2 q2, .slice p3 n3 q3] 50
  mw : OM W base (.slice p1 n1 q1) (.slice p2 n2 q2) (.slice p3 n3 q3) (imF ps L) (imR ps L) []
  m5 : OM W5 base (.slice p1 n1 q1) (.slice p2 n2 q2) (.slice p3 n3 q3) (imF ps L) (imR ps L) []
  n5 : w.heap.size < W5.heap.size ∧ gb < W5.heap.size
  w5 : W5.heap.size ≤ W.heap.size
section
variable {cf : Array Value} {tc : TypeId} {base : Nat} {ps : List PMod} {L : Lay} {w W5 W W' : World} {gb : Nat} {p1 : Option Addr} {n1 q1 : Nat} {p2 : Option Addr} {n2 q2 : Nat} {p3 : Option Addr} {n3 q3 : Nat}
theorem Km.turn {S : Nat → Prop} (h : Km cf tc base ps L w W5 gb p1 n1 q1 p2 n2 q2 p3 n3 q3 W) (t : Turn S W W') (hS : ∀ j, S j → W5.heap.size ≤ j) : Km cf tc base ps L w W5 gb p1 n1 q1 p2 n2 q2 p3 n3 q3 W' :=
  ⟨below_turn h.be t (fun k s => by have := hS k s; have := h.n5.1; omega) h.be.size, turn_blk t h.kc (fun s => by have := hS _ s; have := h.n5.1; omega), turn_blk t h.kw (fun s => by have := hS _ s; have := h.n5.2; omega), h.mw.kept t (fun j hj s => by have := hS _ s; have := (h.m5.lt hj).2; omega), h.m5, h.n5, Nat.le_trans h.w5 t.size⟩
theorem Km.below (h : Km cf tc base ps L w W5 gb p1 n1 q1 p2 n2 q2 p3 n3 q3 W) (hb : Below W.heap.size W W') : Km cf tc base ps L w W5 gb p1 n1 q1 p2 n2 q2 p3 n3 q3 W' := h.turn (S := fun _ => False) (turn_below hb) (fun _ s => absurd s id)
end
theorem LyT.lr {w : World} {L : Lay} {a0 : Option Addr} {c0 : Nat} {xs : List PB} {a2 : Option Addr} {c2 : Nat} {a5 : Option Addr} {c5 : Nat} {ts : List TB} (h : LyT w L a0 c0 xs a2 c2 a5 c5 ts) (hs : lySz L xs ts ≤ 1048576) : LayR L where
  p := by
    intro x hx
    rw [← h.ps] at hx
    obtain ⟨y, hy, rfl⟩ := List.mem_map.1 hx
    obtain ⟨i, hi, rfl⟩ := List.getElem_of_mem hy
    have := (h.p.2.2.2.1 i hi).2.2.1
    simpa [List.getD_eq_getElem?_getD, hi] using this
  s := h.s.2.2.1
  n := by
    have l1 : L.places.length = xs.length := by rw [← h.ps, List.length_map]
    have l2 : L.targets.length = ts.length := by rw [← h.tt, List.length_map]
    unfold lySz plSz tsSz at hs
    refine ⟨by omega, by omega, fun x hx => ?_⟩
    rw [← h.tt] at hx
    obtain ⟨y, hy, rfl⟩ := List.mem_map.1 hx
    obtain ⟨i, hi, rfl⟩ := List.getElem_of_mem hy
    have := upS_le (fun j => (ts.getD j zTB).1.length) ts.length i hi
    have e : ts.getD i zTB = ts[i] := by simp [List.getD_eq_getElem?_getD, hi]
    simp only [e] at this
    omega
theorem rowm_cnt3 {W w : World} {c n cap : Nat} {a : Option Addr} {ms ms' : List Md} (h : RowM W c n ms ms') (hl : ms'.length = n) (hm : MS w a n cap ms) : upS (cntM ms' (fun i => bnF (ms'.getD i zMd))) n ≤ 3 * (n + upS (fun j => (ms.getD j zMd).size) n) := by
  have key : ∀ i, i < n → cntM ms' (fun i => bnF (ms'.getD i zMd)) i ≤ 2 + 3 * (ms.getD i zMd).size := fun i hi => by
    have hc := (h.2.2 i (by omega)).2
    have e1 := (copy_rws (hm.2.2.2.1 i hi) hc).2
    have e2 : (ms'.getD i zMd).tn = (ms.getD i zMd).tn ∧ (ms'.getD i zMd).bn = (ms.getD i zMd).bn ∧ (ms'.getD i zMd).dn = (ms.getD i zMd).dn ∧ (ms'.getD i zMd).rn = (ms.getD i zMd).rn ∧ (ms'.getD i zMd).im = (ms.getD i zMd).im ∧ (ms'.getD i zMd).en = (ms.getD i zMd).en := by
      obtain ⟨g1, g2, g3, g5, g6, g7, gs, e, _⟩ := hc
      rw [e]
      exact ⟨rfl, rfl, rfl, rfl, rfl, rfl⟩
    obtain ⟨f1, f2, f3, f4, f5, f6⟩ := e2
    have e3 : (ms.getD i zMd).size = (ms.getD i zMd).nm.size + (ms.getD i zMd).tn + ((ms.getD i zMd).bn + upS (fun j => ((ms.getD i zMd).bl.getD j zB).2.1) (ms.getD i zMd).bn) + (ms.getD i zMd).dn + (ms.getD i zMd).rn + ((ms.getD i zMd).im + upS (fun j => ((ms.getD i zMd).ss.getD j zS).size) (ms.getD i zMd).im) + ((ms.getD i zMd).en + upS (fun j => ((ms.getD i zMd).es.getD j zE).1.size) (ms.getD i zMd).en) := rfl
    unfold cntM
    rw [e1, f1, f3, f4, f5, f6, e3]
    omega
  have hsum : ∀ q, q ≤ n → upS (cntM ms' (fun i => bnF (ms'.getD i zMd))) q ≤ 2 * q + 3 * upS (fun j => (ms.getD j zMd).size) q := by
    intro q
    induction q with
    | zero => intro _; simp [upS]
    | succ q ih =>
      intro hq
      have h1 := ih (by omega)
      have h2 := key q (by omega)
      show upS _ q + cntM ms' (fun i => bnF (ms'.getD i zMd)) q ≤ 2 * (q + 1) + 3 * (upS _ q + (ms.getD q zMd).size)
      omega
  have := hsum n (Nat.le_refl _)
  omega
end Go.Proofs.YtngdgogjlpjjpaeGreat
