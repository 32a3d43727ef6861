import Derived.Test.YtngdgogjlpjjpacMm1
namespace Go.Proofs.Ytngdgogjlpjjpac
open Go.RowKit
set_option linter.unusedVariables false
set_option linter.unusedSimpArgs false
set_option maxRecDepth 100000

theorem row_ob' {w : World} {g base n : Nat} {zs : List Int} (h : Row8 w g zs) (hb : base ≤ g) (hn : zs.length = n) (hm : n ≤ maxLen) (hr : ∀ z ∈ zs, 0 ≤ z ∧ z ≤ 255) : OB w base (.slice (some ⟨g, 0, none⟩) n n) zs := by
  subst hn
  exact ⟨⟨by simp, .inr ⟨g, zs.length, _, rfl, hb, h, Nat.le_refl _, hm, by simp, by rw [List.take_of_length_le (by simp)]⟩⟩, hr⟩

set_option maxHeartbeats 400000 in
theorem l1Long_any (n : Nat) (w : World) (hn : n ≤ 1048576) :
    Calls Try.prog 106 #[.int .i64 n] w fun e w' => e = .returned (.slice (some ⟨w.heap.size, 0, none⟩) n n) ∧ OB w' w.heap.size (.slice (some ⟨w.heap.size, 0, none⟩) n n) (List.replicate n 0) ∧ Below w.heap.size w w' := by
  obtain ⟨i0, hi, hz0, hz1, hz2⟩ := info_parts info8
  go_enter Try.func106, Try.ntmps106
  go_wp2_with (at_make; refine wpList_make_full _ rfl _ _ 22 rfl w.heap.size 5 i0 (.int .u8 0) 1 Try.underlying22 hi hz0 hz1 .i64 .i64 _ _ n rfl rfl rfl rfl (by rw [hz2]; omega) (by unfold maxLen; omega) (Nat.le_refl _) ?_; intro w1 hown hgr)
  have hrow := row_of_made hown
  have hbel := below_grown hgr
  clear hown hgr
  go_ret
  exact ⟨rfl, row_ob' hrow (Nat.le_refl _) (by simp) (by unfold maxLen; omega) (by intro z hz; simp at hz; omega), hbel⟩

theorem Ms.below {w W W' : World} {r : Nat} {a : Option Addr} {n c : Nat} {zs : List Int} {kk G : Nat} {v1 v2 v3 : Value} {y1 y2 y3 : List Int} (h : Ms w W r a n c zs kk G v1 v2 v3 y1 y2 y3) (b : Below W.heap.size W W') : Ms w W' r a n c zs kk G v1 v2 v3 y1 y2 y3 :=
  ⟨h.res.below b, h.box.below b, h.o1.below b, h.o2.below b, h.o3.below b, h.a12, h.a13, h.a23, h.g1, h.g2, h.g3, rdr_below h.rd b, h.turn.trans (turn_below b), h.big, h.low, h.code⟩
theorem Ms.put1 {w W : World} {r : Nat} {a : Option Addr} {n c : Nat} {zs : List Int} {kk G : Nat} {v1 v2 v3 u : Value} {y1 y2 y3 x : List Int} (h : Ms w W r a n c zs kk G v1 v2 v3 y1 y2 y3) (hu : OB W (w.heap.size + 1) u x) (n2 : ∀ k, u.ownBlock = some k → v2.ownBlock ≠ some k) (n3 : ∀ k, u.ownBlock = some k → v3.ownBlock ≠ some k) (hG : u.ownBlock ≠ some G) : Ms w (W.setCell ⟨G, 0, none⟩ u) r a n c zs kk G u v2 v3 x y2 y3 := by
  have hb := h.big
  have hl := h.low
  refine ⟨h.res.other _ _ (by dsimp only; omega), ?_, ob_far (g := G) hu _ _ hG, ob_far (g := G) h.o2 _ _ h.g2, ob_far (g := G) h.o3 _ _ h.g3, (fun k hk => n2 k hk), (fun k hk => n3 k hk), h.a23, hG, h.g2, h.g3, ?_, ?_, hb, hl, h.code⟩
  · have := h.box.set 0 u
    simpa using this
  · exact ⟨h.rd.blk.other _ _ (by dsimp only; omega), turn_bs' (turn_set W G 0 _) h.rd.bs (fun h0 k hk b off e => by subst hk; have := h.code h0 b off e; omega), h.rd.small, h.rd.far⟩
  · exact ⟨h.turn.os, h.turn.tape, h.turn.output, by rw [size_setCell]; exact h.turn.size, fun k hk hn => by rw [heap_setCell_other _ _ _ _ (by dsimp only; omega)]; exact h.turn.block k hk hn⟩
theorem Ms.put2 {w W : World} {r : Nat} {a : Option Addr} {n c : Nat} {zs : List Int} {kk G : Nat} {v1 v2 v3 u : Value} {y1 y2 y3 x : List Int} (h : Ms w W r a n c zs kk G v1 v2 v3 y1 y2 y3) (hu : OB W (w.heap.size + 1) u x) (n1 : ∀ k, u.ownBlock = some k → v1.ownBlock ≠ some k) (n3 : ∀ k, u.ownBlock = some k → v3.ownBlock ≠ some k) (hG : u.ownBlock ≠ some G) : Ms w (W.setCell ⟨G, 1, none⟩ u) r a n c zs kk G v1 u v3 y1 x y3 := by
  have hb := h.big
  have hl := h.low
  refine ⟨h.res.other _ _ (by dsimp only; omega), ?_, ob_far (g := G) h.o1 _ _ h.g1, ob_far (g := G) hu _ _ hG, ob_far (g := G) h.o3 _ _ h.g3, (fun k hk e => n1 k e hk), h.a13, (fun k hk => n3 k hk), h.g1, hG, h.g3, ?_, ?_, hb, hl, h.code⟩
  · have := h.box.set 1 u
    simpa using this
  · exact ⟨h.rd.blk.other _ _ (by dsimp only; omega), turn_bs' (turn_set W G 1 _) h.rd.bs (fun h0 k hk b off e => by subst hk; have := h.code h0 b off e; omega), h.rd.small, h.rd.far⟩
  · exact ⟨h.turn.os, h.turn.tape, h.turn.output, by rw [size_setCell]; exact h.turn.size, fun k hk hn => by rw [heap_setCell_other _ _ _ _ (by dsimp only; omega)]; exact h.turn.block k hk hn⟩
theorem Ms.put3 {w W : World} {r : Nat} {a : Option Addr} {n c : Nat} {zs : List Int} {kk G : Nat} {v1 v2 v3 u : Value} {y1 y2 y3 x : List Int} (h : Ms w W r a n c zs kk G v1 v2 v3 y1 y2 y3) (hu : OB W (w.heap.size + 1) u x) (n1 : ∀ k, u.ownBlock = some k → v1.ownBlock ≠ some k) (n2 : ∀ k, u.ownBlock = some k → v2.ownBlock ≠ some k) (hG : u.ownBlock ≠ some G) : Ms w (W.setCell ⟨G, 2, none⟩ u) r a n c zs kk G v1 v2 u y1 y2 x := by
  have hb := h.big
  have hl := h.low
  refine ⟨h.res.other _ _ (by dsimp only; omega), ?_, ob_far (g := G) h.o1 _ _ h.g1, ob_far (g := G) h.o2 _ _ h.g2, ob_far (g := G) hu _ _ hG, h.a12, (fun k hk e => n1 k e hk), (fun k hk e => n2 k e hk), h.g1, h.g2, hG, ?_, ?_, hb, hl, h.code⟩
  · have := h.box.set 2 u
    simpa using this
  · exact ⟨h.rd.blk.other _ _ (by dsimp only; omega), turn_bs' (turn_set W G 2 _) h.rd.bs (fun h0 k hk b off e => by subst hk; have := h.code h0 b off e; omega), h.rd.small, h.rd.far⟩
  · exact ⟨h.turn.os, h.turn.tape, h.turn.output, by rw [size_setCell]; exact h.turn.size, fun k hk hn => by rw [heap_setCell_other _ _ _ _ (by dsimp only; omega)]; exact h.turn.block k hk hn⟩

/-- WHAT l1Mem GIVES. -/
def MmPost (w : World) (r : Nat) (a : Option Addr) (n c : Nat) (zs : List Int) (kk : Nat) (y1 y2 y3 : List Int) (e : Ending) (w' : World) : Prop :=
  ∃ b1 d1 b2 d2 b3 d3, e = .returned (.agg #[.slice (some ⟨b1, 0, none⟩) y1.length d1, .slice (some ⟨b2, 0, none⟩) y2.length d2, .slice (some ⟨b3, 0, none⟩) y3.length d3]) ∧ BS w' (some ⟨b1, 0, none⟩) y1.length d1 y1 ∧ BS w' (some ⟨b2, 0, none⟩) y2.length d2 y2 ∧ BS w' (some ⟨b3, 0, none⟩) y3.length d3 y3 ∧ w.heap.size ≤ b1 ∧ w.heap.size ≤ b2 ∧ w.heap.size ≤ b3 ∧ Rdr w' r a n c zs kk ∧ Turn (fun j => j = r) w w'
theorem Ms.done {w W : World} {r : Nat} {a : Option Addr} {n c : Nat} {zs : List Int} {kk G b1 d1 b2 d2 b3 d3 m1 m2 m3 : Nat} {y1 y2 y3 : List Int} (h : Ms w W r a n c zs kk G (.slice (some ⟨b1, 0, none⟩) m1 d1) (.slice (some ⟨b2, 0, none⟩) m2 d2) (.slice (some ⟨b3, 0, none⟩) m3 d3) y1 y2 y3) (fn : Func) (hf : fn.results = #[.cell 2 24]) (tmps : Array Value) (h2 : tmps[2]? = some (.pointer (some ⟨w.heap.size, 0, none⟩))) :
    bodyPost Try.prog fn (MmPost w r a n c zs kk y1 y2 y3) Exit.ret ⟨tmps, []⟩ (((W.setCell ⟨w.heap.size, 0, none⟩ (.slice (some ⟨b1, 0, none⟩) m1 d1)).setCell ⟨w.heap.size, 1, none⟩ (.slice (some ⟨b2, 0, none⟩) m2 d2)).setCell ⟨w.heap.size, 2, none⟩ (.slice (some ⟨b3, 0, none⟩) m3 d3)) := by
  have hl := h.low
  have e1 := h.o1.bs.1
  have e2 := h.o2.bs.1
  have e3 := h.o3.bs.1
  subst e1 e2 e3
  have hc' : n ≠ 0 → ∀ k, k = w.heap.size → ∀ b' off, a = some ⟨b', off, none⟩ → b' ≠ k := fun h0 k hk b off e => by have := h.code h0 b off e; omega
  have l1 := (h.o1.lt b1 rfl).1
  have l2 := (h.o2.lt b2 rfl).1
  have l3 := (h.o3.lt b3 rfl).1
  have st : ∀ (V : World) (i : Nat) (v : Value), Turn (fun j => j = w.heap.size) V (V.setCell ⟨w.heap.size, i, none⟩ v) := fun V i v => turn_set V _ i v
  have T3 := ((st W 0 (.slice (some ⟨b1, 0, none⟩) y1.length d1)).trans (st _ 1 (.slice (some ⟨b2, 0, none⟩) y2.length d2))).trans (st _ 2 (.slice (some ⟨b3, 0, none⟩) y3.length d3))
  have hz := ((h.res.set 0 (.slice (some ⟨b1, 0, none⟩) y1.length d1)).set 1 (.slice (some ⟨b2, 0, none⟩) y2.length d2)).set 2 (.slice (some ⟨b3, 0, none⟩) y3.length d3)
  have B1 := turn_bs T3 h.o1.bs (fun k hk b off e => by injection e with e; injection e with e; omega)
  have B2 := turn_bs T3 h.o2.bs (fun k hk b off e => by injection e with e; injection e with e; omega)
  have B3 := turn_bs T3 h.o3.bs (fun k hk b off e => by injection e with e; injection e with e; omega)
  have hR : Rdr _ r a n c zs kk := ⟨turn_blk T3 h.rd.blk (by omega), turn_bs' T3 h.rd.bs hc', h.rd.small, h.rd.far⟩
  have hT : Turn (fun j => j = r) w _ := ⟨T3.os.trans h.turn.os, T3.tape.trans h.turn.tape, T3.output.trans h.turn.output, Nat.le_trans h.turn.size T3.size, fun k hk hn => (T3.block k (Nat.lt_of_lt_of_le hk h.turn.size) (by omega)).trans (h.turn.block k hk hn)⟩
  generalize ((W.setCell ⟨w.heap.size, 0, none⟩ (.slice (some ⟨b1, 0, none⟩) y1.length d1)).setCell ⟨w.heap.size, 1, none⟩ (.slice (some ⟨b2, 0, none⟩) y2.length d2)).setCell ⟨w.heap.size, 2, none⟩ (.slice (some ⟨b3, 0, none⟩) y3.length d3) = V at *
  refine bodyPost_ret (v := .agg #[.slice (some ⟨b1, 0, none⟩) y1.length d1, .slice (some ⟨b2, 0, none⟩) y2.length d2, .slice (some ⟨b3, 0, none⟩) y3.length d3]) ?_ rfl ⟨b1, d1, b2, d2, b3, d3, rfl, B1, B2, B3, by omega, by omega, by omega, hR, hT⟩
  have hz' : Blk V w.heap.size #[.slice (some ⟨b1, 0, none⟩) y1.length d1, .slice (some ⟨b2, 0, none⟩) y2.length d2, .slice (some ⟨b3, 0, none⟩) y3.length d3] 24 := by simpa using hz
  obtain ⟨p1, p2, p3, p4⟩ := hz'.three
  simp [results, hf, go_sem, h2, p1, p2, p3]
end Go.Proofs.Ytngdgogjlpjjpac
