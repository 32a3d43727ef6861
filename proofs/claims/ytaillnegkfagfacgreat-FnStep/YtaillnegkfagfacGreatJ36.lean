import Derived.Test.YtaillnegkfagfacGreatJ35
import Derived.Test.YtaillnegkfagfacGreatJ12
namespace Go.Proofs.YtaillnegkfagfacGreat
open Go.RowKit
set_option linter.unusedVariables false

theorem ob_room' {w : World} {base g n cap m : Nat} {zs : List Int} (h : OB w base (.slice (some ⟨g, 0, none⟩) n cap) zs) (hm : m ≤ n) : Room w g m := by
  obtain ⟨cur, hb, hn⟩ := ob_room h
  exact ⟨cur, hb, by omega⟩

/-- one byte behind Out -/
theorem hold_out {w W W' : World} {base go : Nat} {bx : Array Value} {v1 v2 v3 v' : Value} {x1 x2 x3 : List Int} {z : Int} (h : Hold w W base go bx v1 v2 v3 x1 x2 x3) (hz : 0 ≤ z ∧ z ≤ 255)
    (bs : Nat) (hbs : base ≤ bs) (h1 : ∀ k, v1.ownBlock = some k → k < bs) (h2 : ∀ k, v2.ownBlock = some k → k < bs)
    (ho : W'.ownsRow bs 5 1 v' (x3.length + 1) (x3.map (Value.int .u8) ++ [Value.int .u8 z])) (hg : (W.alloc (.cells #[.int .u8 z] 5)).grownBy W' v3.ownBlock) :
    Hold w (W'.setCell ⟨go, 2, none⟩ v') base go bx v1 v2 v' x1 x2 (x3 ++ [z]) := by
  have hb := h.big
  have hgb := h.gobig
  have e3 : ∀ k, v3.ownBlock = some k → base ≤ k := fun k hk => (h.own.2.2.1.lt k hk).1
  have f1 : v1.ownBlock = none ∨ v1.ownBlock ≠ v3.ownBlock := by
    cases e : v1.ownBlock with
    | none => exact Or.inl rfl
    | some k => right; intro e'; exact Nat.lt_irrefl _ (h.own.2.2.2.2.1 k k e e'.symm)
  have f2 : v2.ownBlock = none ∨ v2.ownBlock ≠ v3.ownBlock := by
    cases e : v2.ownBlock with
    | none => exact Or.inl rfl
    | some k => right; intro e'; exact Nat.lt_irrefl _ (h.own.2.2.2.2.2 k k e e'.symm)
  have kb := grown_blk hg (h.box.alloc (.cells #[.int .u8 z] 5)) (fun e => by have := e3 _ e.symm; omega)
  have kr := grown_blk hg (h.res.alloc (.cells #[.int .u8 z] 5)) (fun e => by have := e3 _ e.symm; omega)
  have ko := grown_blk hg (h.out.alloc (.cells #[.int .u8 z] 5)) (fun e => h.far v3 (Or.inr (Or.inr rfl)) e.symm)
  have hfar : v'.ownBlock ≠ some go := by
    intro e
    obtain ⟨_, ⟨rfl, _⟩ | ⟨g, cap, cur, rfl, hgg, hh, _⟩⟩ := ho
    · simp [Value.ownBlock] at e
    · simp [Value.ownBlock] at e
      subst e
      unfold Blk at ko
      rw [ko] at hh
      simp at hh
  have hB : Below w.heap.size w (W.alloc (.cells #[.int .u8 z] 5)) := h.below.alloc h.below.size _
  have o1 := grown_ob hg (own3_alloc h.own (.cells #[.int .u8 z] 5)).1 f1
  have o2 := grown_ob hg (own3_alloc h.own (.cells #[.int .u8 z] 5)).2.1 f2
  have o3 : OB W' bs v' (x3 ++ [z]) := ⟨by simpa using ho, fun y hy => by
    rcases List.mem_append.1 hy with hy | hy
    · exact h.own.2.2.1.2 y hy
    · simp at hy; subst hy; exact hz⟩
  refine ⟨(hB.grown hg (by have := hB.size; omega) (fun k hk => by have := e3 k hk; omega)).setCell (by dsimp only; omega) _, hb, hgb, kb.other _ _ (by dsimp only; omega), kr.other _ _ (by dsimp only; omega), ?_, ⟨?_, ?_, ?_, h.own.2.2.2.1, ?_, ?_⟩, ?_⟩
  · have := ko.set 2 v'
    simpa using this
  · exact ob_far (g := go) o1 _ _ (h.far v1 (Or.inl rfl))
  · exact ob_far (g := go) o2 _ _ (h.far v2 (Or.inr (Or.inl rfl)))
  · exact (ob_far (g := go) o3 _ _ hfar).mono hbs
  · intro k j hk hj
    have := h1 k hk
    have := o3.lt j hj
    omega
  · intro k j hk hj
    have := h2 k hk
    have := o3.lt j hj
    omega
  · intro v hv
    rcases hv with rfl | rfl | rfl
    · exact h.far _ (Or.inl rfl)
    · exact h.far _ (Or.inr (Or.inl rfl))
    · exact hfar
/-- where the bytes behind Out may lie -/
theorem out_base {w W : World} {base go : Nat} {bx : Array Value} {v1 v2 v3 : Value} {x1 x2 x3 : List Int} (h : Hold w W base go bx v1 v2 v3 x1 x2 x3) :
    ∃ bs, base ≤ bs ∧ bs ≤ W.heap.size ∧ (∀ k, v1.ownBlock = some k → k < bs) ∧ (∀ k, v2.ownBlock = some k → k < bs) ∧ W.ownsRow bs 5 1 v3 x3.length (x3.map (Value.int .u8)) := by
  obtain ⟨hl, ⟨h0, h0'⟩ | ⟨g, cap, cur, hv, hg, hh, a1, a2, a3, a4⟩⟩ := h.own.2.2.1.1
  · refine ⟨W.heap.size, by have := h.out.lt; have := h.gobig; omega, Nat.le_refl _, fun k hk => (h.own.1.lt k hk).2, fun k hk => (h.own.2.1.lt k hk).2, hl, .inl ⟨h0, h0'⟩⟩
  · refine ⟨g, hg, Nat.le_of_lt (Blk.lt (w := W) hh), fun k hk => h.own.2.2.2.2.1 k g hk (by rw [hv]; rfl), fun k hk => h.own.2.2.2.2.2 k g hk (by rw [hv]; rfl), hl, .inr ⟨g, cap, cur, hv, Nat.le_refl _, hh, a1, a2, a3, a4⟩⟩

set_option maxRecDepth 100000 in
set_option maxHeartbeats 1000000 in
theorem sWrite_port4 (b1 o1 b2 o2 b3 o3 n1 c1 n2 c2 n3 c3 : Nat) (x1 x2 x3 : List Int)  (v : Int) (w : World) (h1 : BS w (some ⟨b1, o1, none⟩) n1 c1 x1) (h2 : BS w (some ⟨b2, o2, none⟩) n2 c2 x2) (h3 : BS w (some ⟨b3, o3, none⟩) n3 c3 x3) (hn : n1 + n2 + n3 ≤ 1048576) (hv : -9223372036854775808 ≤ v ∧ v ≤ 9223372036854775807) (h : mok n1 n2 n3 = true) (hfree : n3 < 5000) :
    Calls Tryz.prog 48 #[.agg #[.slice (some ⟨b1, o1, none⟩) n1 c1, .slice (some ⟨b2, o2, none⟩) n2 c2, .slice (some ⟨b3, o3, none⟩) n3 c3], .int .i64 131072, .int .i64 4, .int .i64 v] w (WrPost w (x1, x2, x3 ++ [v % 256], 0)) := by
  have hB0 : Below w.heap.size w ((w.alloc (.cells #[.slice (some ⟨b1, o1, none⟩) n1 c1, .slice (some ⟨b2, o2, none⟩) n2 c2, .slice (some ⟨b3, o3, none⟩) n3 c3] 27)).alloc (.cells #[.slice none 0 0, .slice none 0 0, .slice none 0 0] 27)) := ((Below.refl _ _).alloc (Nat.le_refl _) _).alloc (by simp) _
  obtain ⟨i0, hi, hz0, hz1, hz2⟩ := info_parts info8
  have hfree' : ¬ (5000 : Int) ≤ (n3 : Int) := by omega
  have hx3 := h3.1
  go_enter Tryz.func48, Tryz.ntmps48
  go_wp2_with fail
  refine (l1Copy_any b1 o1 b2 o2 b3 o3 n1 c1 n2 c2 n3 c3 x1 x2 x3 _ (h1.below hB0) (h2.below hB0) (h3.below hB0) hn).mono ?_
  rintro e w1 ⟨a1, d1, a2, d2, a3, d3, rfl, hO, hb1⟩
  have H := hold_start (bx := #[.slice (some ⟨b1, o1, none⟩) n1 c1, .slice (some ⟨b2, o2, none⟩) n2 c2, .slice (some ⟨b3, o3, none⟩) n3 c3]) hO hb1
  have hgo := hb1.size
  simp only [World.size_alloc] at hgo
  clear hO hb1
  obtain ⟨q1, q2, q3, q4⟩ := H.box.three
  obtain ⟨q5, q6, q7, q8⟩ := H.res.three
  obtain ⟨q9, q10, q11, q12⟩ := H.out.three
  go_wp2_with fail
  refine (sMemOk_any (some ⟨b1, o1, none⟩) (some ⟨b2, o2, none⟩) (some ⟨b3, o3, none⟩) n1 c1 n2 c2 n3 c3 _).mono ?_
  rw [h]
  rintro e w2 ⟨rfl, hbx⟩
  have H := H.step hbx
  clear hbx q1 q2 q3 q4 q5 q6 q7 q8 q9 q10 q11 q12
  obtain ⟨q1, q2, q3, q4⟩ := H.box.three
  obtain ⟨q5, q6, q7, q8⟩ := H.res.three
  obtain ⟨q9, q10, q11, q12⟩ := H.out.three
  go_wp2_with fail
  refine (l1Size_any 4 _).mono ?_
  rw [wd4]
  rintro e wx ⟨rfl, rfl⟩
  go_wp2_with fail
  refine (l1Word_any v _ hv).mono ?_
  rintro e wx ⟨rfl, rfl⟩
  have hu : 0 ≤ v % 4294967296 ∧ v % 4294967296 ≤ 4294967295 := by omega
  have HU := hide (show v % 256 = v % 4294967296 % 256 by omega)
  generalize v % 4294967296 = u at *
  obtain ⟨hu0, hu1⟩ := hu
  obtain ⟨bs, hbs, hbs', f1, f2, hown⟩ := out_base H
  rw [hx3] at hown
  have HOWN := hide (hown.alloc (.cells #[.int .u8 (u % 256)] 5))
  have HF1 := hide f1
  have HF2 := hide f2
  have HS := hide hx3
  clear hown f1 f2 hx3
  go_wp2_with (at_builtin; refine wpList_append_own _ rfl _ _ 22 rfl bs 5 i0 (.int .u8 0) 1 1 Tryz.underlying22 hi hz0 hz1 hz2 rfl (by decide) _ n3 (x3.map (Value.int .u8)) rfl HOWN.out ⟨w2.heap.size, 0, none⟩ 1 1 [.int .u8 (u % 256)] rfl rfl (cell_one_new _ _ _) (by intro u hu; simp at hu; subst hu; rfl) (by unfold maxLen; omega) (by omega) (by simp; omega) ?_; intro v' w3 hown3 hgr3 _; obtain ⟨a', d', he⟩ := own_shape hown3; subst he; have H3 := hold_out H (z := u % 256) (by omega) bs hbs HF1.out HF2.out (by rw [HS.out]; exact hown3) hgr3; obtain ⟨q5, q6, q7, q8⟩ := (grown_blk hgr3 (H.res.alloc (.cells #[.int .u8 (u % 256)] 5)) (fun e => by have := (H.own.2.2.1.lt _ e.symm).1; omega)).three; obtain ⟨q9, q10, q11, q12⟩ := (grown_blk hgr3 (H.out.alloc (.cells #[.int .u8 (u % 256)] 5)) (fun e => H.far _ (Or.inr (Or.inr rfl)) e.symm)).three; clear hown3 hgr3)
  obtain ⟨r5, r6, r7, r8⟩ := H3.res.three
  refine bodyPost_ret (v := .tuple #[.agg #[.slice a1 n1 d1, .slice a2 n2 d2, .slice a' (n3 + 1) d'], .int .i64 0]) (by simp [results, Tryz.results48, go_sem, r5, r6, r7]) rfl ⟨a1, n1, d1, a2, n2, d2, a', n3 + 1, d', rfl, ?_, H3.done.2⟩
  rw [show (x1, x2, x3 ++ [v % 256], (0:Int)).2.2.1 = x3 ++ [u % 256] from by rw [← HU.out]]
  exact H3.done.1

set_option maxRecDepth 100000 in
set_option maxHeartbeats 1000000 in
theorem sWrite_port2 (b1 o1 b2 o2 b3 o3 n1 c1 n2 c2 n3 c3 : Nat) (x1 x2 x3 : List Int)  (v : Int) (w : World) (h1 : BS w (some ⟨b1, o1, none⟩) n1 c1 x1) (h2 : BS w (some ⟨b2, o2, none⟩) n2 c2 x2) (h3 : BS w (some ⟨b3, o3, none⟩) n3 c3 x3) (hn : n1 + n2 + n3 ≤ 1048576) (hv : -9223372036854775808 ≤ v ∧ v ≤ 9223372036854775807) (h : mok n1 n2 n3 = true) (hfree : n3 < 5000) :
    Calls Tryz.prog 48 #[.agg #[.slice (some ⟨b1, o1, none⟩) n1 c1, .slice (some ⟨b2, o2, none⟩) n2 c2, .slice (some ⟨b3, o3, none⟩) n3 c3], .int .i64 131072, .int .i64 2, .int .i64 v] w (WrPost w (x1, x2, x3 ++ [v % 256], 0)) := by
  have hB0 : Below w.heap.size w ((w.alloc (.cells #[.slice (some ⟨b1, o1, none⟩) n1 c1, .slice (some ⟨b2, o2, none⟩) n2 c2, .slice (some ⟨b3, o3, none⟩) n3 c3] 27)).alloc (.cells #[.slice none 0 0, .slice none 0 0, .slice none 0 0] 27)) := ((Below.refl _ _).alloc (Nat.le_refl _) _).alloc (by simp) _
  obtain ⟨i0, hi, hz0, hz1, hz2⟩ := info_parts info8
  have hfree' : ¬ (5000 : Int) ≤ (n3 : Int) := by omega
  have hx3 := h3.1
  go_enter Tryz.func48, Tryz.ntmps48
  go_wp2_with fail
  refine (l1Copy_any b1 o1 b2 o2 b3 o3 n1 c1 n2 c2 n3 c3 x1 x2 x3 _ (h1.below hB0) (h2.below hB0) (h3.below hB0) hn).mono ?_
  rintro e w1 ⟨a1, d1, a2, d2, a3, d3, rfl, hO, hb1⟩
  have H := hold_start (bx := #[.slice (some ⟨b1, o1, none⟩) n1 c1, .slice (some ⟨b2, o2, none⟩) n2 c2, .slice (some ⟨b3, o3, none⟩) n3 c3]) hO hb1
  have hgo := hb1.size
  simp only [World.size_alloc] at hgo
  clear hO hb1
  obtain ⟨q1, q2, q3, q4⟩ := H.box.three
  obtain ⟨q5, q6, q7, q8⟩ := H.res.three
  obtain ⟨q9, q10, q11, q12⟩ := H.out.three
  go_wp2_with fail
  refine (sMemOk_any (some ⟨b1, o1, none⟩) (some ⟨b2, o2, none⟩) (some ⟨b3, o3, none⟩) n1 c1 n2 c2 n3 c3 _).mono ?_
  rw [h]
  rintro e w2 ⟨rfl, hbx⟩
  have H := H.step hbx
  clear hbx q1 q2 q3 q4 q5 q6 q7 q8 q9 q10 q11 q12
  obtain ⟨q1, q2, q3, q4⟩ := H.box.three
  obtain ⟨q5, q6, q7, q8⟩ := H.res.three
  obtain ⟨q9, q10, q11, q12⟩ := H.out.three
  go_wp2_with fail
  refine (l1Size_any 2 _).mono ?_
  rw [wd2]
  rintro e wx ⟨rfl, rfl⟩
  go_wp2_with fail
  refine (l1Word_any v _ hv).mono ?_
  rintro e wx ⟨rfl, rfl⟩
  have hu : 0 ≤ v % 4294967296 ∧ v % 4294967296 ≤ 4294967295 := by omega
  have HU := hide (show v % 256 = v % 4294967296 % 256 by omega)
  generalize v % 4294967296 = u at *
  obtain ⟨hu0, hu1⟩ := hu
  obtain ⟨bs, hbs, hbs', f1, f2, hown⟩ := out_base H
  rw [hx3] at hown
  have HOWN := hide (hown.alloc (.cells #[.int .u8 (u % 256)] 5))
  have HF1 := hide f1
  have HF2 := hide f2
  have HS := hide hx3
  clear hown f1 f2 hx3
  go_wp2_with (at_builtin; refine wpList_append_own _ rfl _ _ 22 rfl bs 5 i0 (.int .u8 0) 1 1 Tryz.underlying22 hi hz0 hz1 hz2 rfl (by decide) _ n3 (x3.map (Value.int .u8)) rfl HOWN.out ⟨w2.heap.size, 0, none⟩ 1 1 [.int .u8 (u % 256)] rfl rfl (cell_one_new _ _ _) (by intro u hu; simp at hu; subst hu; rfl) (by unfold maxLen; omega) (by omega) (by simp; omega) ?_; intro v' w3 hown3 hgr3 _; obtain ⟨a', d', he⟩ := own_shape hown3; subst he; have H3 := hold_out H (z := u % 256) (by omega) bs hbs HF1.out HF2.out (by rw [HS.out]; exact hown3) hgr3; obtain ⟨q5, q6, q7, q8⟩ := (grown_blk hgr3 (H.res.alloc (.cells #[.int .u8 (u % 256)] 5)) (fun e => by have := (H.own.2.2.1.lt _ e.symm).1; omega)).three; obtain ⟨q9, q10, q11, q12⟩ := (grown_blk hgr3 (H.out.alloc (.cells #[.int .u8 (u % 256)] 5)) (fun e => H.far _ (Or.inr (Or.inr rfl)) e.symm)).three; clear hown3 hgr3)
  obtain ⟨r5, r6, r7, r8⟩ := H3.res.three
  refine bodyPost_ret (v := .tuple #[.agg #[.slice a1 n1 d1, .slice a2 n2 d2, .slice a' (n3 + 1) d'], .int .i64 0]) (by simp [results, Tryz.results48, go_sem, r5, r6, r7]) rfl ⟨a1, n1, d1, a2, n2, d2, a', n3 + 1, d', rfl, ?_, H3.done.2⟩
  rw [show (x1, x2, x3 ++ [v % 256], (0:Int)).2.2.1 = x3 ++ [u % 256] from by rw [← HU.out]]
  exact H3.done.1

set_option maxRecDepth 100000 in
set_option maxHeartbeats 1000000 in
theorem sWrite_port1 (b1 o1 b2 o2 b3 o3 n1 c1 n2 c2 n3 c3 : Nat) (x1 x2 x3 : List Int)  (v : Int) (w : World) (h1 : BS w (some ⟨b1, o1, none⟩) n1 c1 x1) (h2 : BS w (some ⟨b2, o2, none⟩) n2 c2 x2) (h3 : BS w (some ⟨b3, o3, none⟩) n3 c3 x3) (hn : n1 + n2 + n3 ≤ 1048576) (hv : -9223372036854775808 ≤ v ∧ v ≤ 9223372036854775807) (h : mok n1 n2 n3 = true) (hfree : n3 < 5000) :
    Calls Tryz.prog 48 #[.agg #[.slice (some ⟨b1, o1, none⟩) n1 c1, .slice (some ⟨b2, o2, none⟩) n2 c2, .slice (some ⟨b3, o3, none⟩) n3 c3], .int .i64 131072, .int .i64 1, .int .i64 v] w (WrPost w (x1, x2, x3 ++ [v % 256], 0)) := by
  have hB0 : Below w.heap.size w ((w.alloc (.cells #[.slice (some ⟨b1, o1, none⟩) n1 c1, .slice (some ⟨b2, o2, none⟩) n2 c2, .slice (some ⟨b3, o3, none⟩) n3 c3] 27)).alloc (.cells #[.slice none 0 0, .slice none 0 0, .slice none 0 0] 27)) := ((Below.refl _ _).alloc (Nat.le_refl _) _).alloc (by simp) _
  obtain ⟨i0, hi, hz0, hz1, hz2⟩ := info_parts info8
  have hfree' : ¬ (5000 : Int) ≤ (n3 : Int) := by omega
  have hx3 := h3.1
  go_enter Tryz.func48, Tryz.ntmps48
  go_wp2_with fail
  refine (l1Copy_any b1 o1 b2 o2 b3 o3 n1 c1 n2 c2 n3 c3 x1 x2 x3 _ (h1.below hB0) (h2.below hB0) (h3.below hB0) hn).mono ?_
  rintro e w1 ⟨a1, d1, a2, d2, a3, d3, rfl, hO, hb1⟩
  have H := hold_start (bx := #[.slice (some ⟨b1, o1, none⟩) n1 c1, .slice (some ⟨b2, o2, none⟩) n2 c2, .slice (some ⟨b3, o3, none⟩) n3 c3]) hO hb1
  have hgo := hb1.size
  simp only [World.size_alloc] at hgo
  clear hO hb1
  obtain ⟨q1, q2, q3, q4⟩ := H.box.three
  obtain ⟨q5, q6, q7, q8⟩ := H.res.three
  obtain ⟨q9, q10, q11, q12⟩ := H.out.three
  go_wp2_with fail
  refine (sMemOk_any (some ⟨b1, o1, none⟩) (some ⟨b2, o2, none⟩) (some ⟨b3, o3, none⟩) n1 c1 n2 c2 n3 c3 _).mono ?_
  rw [h]
  rintro e w2 ⟨rfl, hbx⟩
  have H := H.step hbx
  clear hbx q1 q2 q3 q4 q5 q6 q7 q8 q9 q10 q11 q12
  obtain ⟨q1, q2, q3, q4⟩ := H.box.three
  obtain ⟨q5, q6, q7, q8⟩ := H.res.three
  obtain ⟨q9, q10, q11, q12⟩ := H.out.three
  go_wp2_with fail
  refine (l1Size_any 1 _).mono ?_
  rw [wd1]
  rintro e wx ⟨rfl, rfl⟩
  go_wp2_with fail
  refine (l1Word_any v _ hv).mono ?_
  rintro e wx ⟨rfl, rfl⟩
  have hu : 0 ≤ v % 4294967296 ∧ v % 4294967296 ≤ 4294967295 := by omega
  have HU := hide (show v % 256 = v % 4294967296 % 256 by omega)
  generalize v % 4294967296 = u at *
  obtain ⟨hu0, hu1⟩ := hu
  obtain ⟨bs, hbs, hbs', f1, f2, hown⟩ := out_base H
  rw [hx3] at hown
  have HOWN := hide (hown.alloc (.cells #[.int .u8 (u % 256)] 5))
  have HF1 := hide f1
  have HF2 := hide f2
  have HS := hide hx3
  clear hown f1 f2 hx3
  go_wp2_with (at_builtin; refine wpList_append_own _ rfl _ _ 22 rfl bs 5 i0 (.int .u8 0) 1 1 Tryz.underlying22 hi hz0 hz1 hz2 rfl (by decide) _ n3 (x3.map (Value.int .u8)) rfl HOWN.out ⟨w2.heap.size, 0, none⟩ 1 1 [.int .u8 (u % 256)] rfl rfl (cell_one_new _ _ _) (by intro u hu; simp at hu; subst hu; rfl) (by unfold maxLen; omega) (by omega) (by simp; omega) ?_; intro v' w3 hown3 hgr3 _; obtain ⟨a', d', he⟩ := own_shape hown3; subst he; have H3 := hold_out H (z := u % 256) (by omega) bs hbs HF1.out HF2.out (by rw [HS.out]; exact hown3) hgr3; obtain ⟨q5, q6, q7, q8⟩ := (grown_blk hgr3 (H.res.alloc (.cells #[.int .u8 (u % 256)] 5)) (fun e => by have := (H.own.2.2.1.lt _ e.symm).1; omega)).three; obtain ⟨q9, q10, q11, q12⟩ := (grown_blk hgr3 (H.out.alloc (.cells #[.int .u8 (u % 256)] 5)) (fun e => H.far _ (Or.inr (Or.inr rfl)) e.symm)).three; clear hown3 hgr3)
  obtain ⟨r5, r6, r7, r8⟩ := H3.res.three
  refine bodyPost_ret (v := .tuple #[.agg #[.slice a1 n1 d1, .slice a2 n2 d2, .slice a' (n3 + 1) d'], .int .i64 0]) (by simp [results, Tryz.results48, go_sem, r5, r6, r7]) rfl ⟨a1, n1, d1, a2, n2, d2, a', n3 + 1, d', rfl, ?_, H3.done.2⟩
  rw [show (x1, x2, x3 ++ [v % 256], (0:Int)).2.2.1 = x3 ++ [u % 256] from by rw [← HU.out]]
  exact H3.done.1

end Go.Proofs.YtaillnegkfagfacGreat

namespace Go.Proofs.YtaillnegkfagfacGreat
open Go.RowKit
set_option linter.unusedVariables false

theorem sWrite_any (b1 o1 b2 o2 b3 o3 n1 c1 n2 c2 n3 c3 : Nat) (x1 x2 x3 : List Int) (p s v : Int) (w : World) (h1 : BS w (some ⟨b1, o1, none⟩) n1 c1 x1) (h2 : BS w (some ⟨b2, o2, none⟩) n2 c2 x2) (h3 : BS w (some ⟨b3, o3, none⟩) n3 c3 x3) (hn : n1 + n2 + n3 ≤ 1048576) (hv : -9223372036854775808 ≤ v ∧ v ≤ 9223372036854775807) (hmax : p ≤ 9223372036854775807) :
    Calls Tryz.prog 48 #[.agg #[.slice (some ⟨b1, o1, none⟩) n1 c1, .slice (some ⟨b2, o2, none⟩) n2 c2, .slice (some ⟨b3, o3, none⟩) n3 c3], .int .i64 p, .int .i64 s, .int .i64 v] w (WrPost w (wrm n1 n2 n3 x1 x2 x3 p s v)) := by
  by_cases hb : mok n1 n2 n3 = true ∧ wd s = true
  · obtain ⟨hm, hs⟩ := hb
    obtain ⟨l1, l2, l3⟩ := mok1 hm
    rcases wd_cases hs with rfl | rfl | rfl
    · by_cases ha : (p.tmod 4 != 0) = true
      · rw [show wrm n1 n2 n3 x1 x2 x3 p 4 v = (x1, x2, x3, 1) from by rw [wrm, if_pos ⟨hm, hs⟩, if_pos ha]]
        exact sWrite_mis4 b1 o1 b2 o2 b3 o3 n1 c1 n2 c2 n3 c3 x1 x2 x3 p v w h1 h2 h3 hn hv hm ha
      · have hna := ha
        have ha : (p.tmod 4 != 0) = false := by simpa using ha
        by_cases hp : p = 131072
        · subst hp
          by_cases hf : 5000 ≤ n3
          · rw [show wrm n1 n2 n3 x1 x2 x3 131072 4 v = (x1, x2, x3, 4) from by rw [wrm, if_pos ⟨hm, hs⟩, if_neg hna, if_pos rfl, if_pos hf]]
            exact sWrite_full4 b1 o1 b2 o2 b3 o3 n1 c1 n2 c2 n3 c3 x1 x2 x3 v w h1 h2 h3 hn hv hm hf
          · rw [show wrm n1 n2 n3 x1 x2 x3 131072 4 v = (x1, x2, x3 ++ [v % 256], 0) from by rw [wrm, if_pos ⟨hm, hs⟩, if_neg hna, if_pos rfl, if_neg hf]]
            exact sWrite_port4 b1 o1 b2 o2 b3 o3 n1 c1 n2 c2 n3 c3 x1 x2 x3 v w h1 h2 h3 hn hv hm (by omega)
        · by_cases hi : ins p 4 0 n1 = true
          · rw [show wrm n1 n2 n3 x1 x2 x3 p 4 v = (x1, x2, x3, 3) from by rw [wrm, if_pos ⟨hm, hs⟩, if_neg hna, if_neg hp, if_pos hi]]
            exact sWrite_flash4 b1 o1 b2 o2 b3 o3 n1 c1 n2 c2 n3 c3 x1 x2 x3 p v w h1 h2 h3 hn hv hm ha (by simpa using hp) hi
          · have hi : ins p 4 0 n1 = false := by simpa using hi
            by_cases hj : ins p 4 65536 n2 = true
            · have hj' := hj
              simp [ins] at hj'
              obtain ⟨k, hk⟩ := Int.eq_ofNat_of_zero_le (show 0 ≤ p - 65536 by omega)
              rw [show wrm n1 n2 n3 x1 x2 x3 p 4 v = (x1, put x2 k v 4, x3, 0) from by rw [wrm, if_pos ⟨hm, hs⟩, if_neg hna, if_neg hp, if_neg (by rw [hi]; simp), if_pos hj, hk]; rfl]
              exact sWrite_ram4 b1 o1 b2 o2 b3 o3 n1 c1 n2 c2 n3 c3 x1 x2 x3 k p v w h1 h2 h3 hn hv hm (by rw [Int.tmod_eq_emod_of_nonneg (by omega)] at ha; exact ha) hk (by omega)
            · have hj : ins p 4 65536 n2 = false := by simpa using hj
              rw [show wrm n1 n2 n3 x1 x2 x3 p 4 v = (x1, x2, x3, 2) from by rw [wrm, if_pos ⟨hm, hs⟩, if_neg hna, if_neg hp, if_neg (by rw [hi]; simp), if_neg (by rw [hj]; simp)]]
              exact sWrite_bus4 b1 o1 b2 o2 b3 o3 n1 c1 n2 c2 n3 c3 x1 x2 x3 p v w h1 h2 h3 hn hv hm ha (by simpa using hp) hi hj
    · by_cases ha : (p.tmod 2 != 0) = true
      · rw [show wrm n1 n2 n3 x1 x2 x3 p 2 v = (x1, x2, x3, 1) from by rw [wrm, if_pos ⟨hm, hs⟩, if_pos ha]]
        exact sWrite_mis2 b1 o1 b2 o2 b3 o3 n1 c1 n2 c2 n3 c3 x1 x2 x3 p v w h1 h2 h3 hn hv hm ha
      · have hna := ha
        have ha : (p.tmod 2 != 0) = false := by simpa using ha
        by_cases hp : p = 131072
        · subst hp
          by_cases hf : 5000 ≤ n3
          · rw [show wrm n1 n2 n3 x1 x2 x3 131072 2 v = (x1, x2, x3, 4) from by rw [wrm, if_pos ⟨hm, hs⟩, if_neg hna, if_pos rfl, if_pos hf]]
            exact sWrite_full2 b1 o1 b2 o2 b3 o3 n1 c1 n2 c2 n3 c3 x1 x2 x3 v w h1 h2 h3 hn hv hm hf
          · rw [show wrm n1 n2 n3 x1 x2 x3 131072 2 v = (x1, x2, x3 ++ [v % 256], 0) from by rw [wrm, if_pos ⟨hm, hs⟩, if_neg hna, if_pos rfl, if_neg hf]]
            exact sWrite_port2 b1 o1 b2 o2 b3 o3 n1 c1 n2 c2 n3 c3 x1 x2 x3 v w h1 h2 h3 hn hv hm (by omega)
        · by_cases hi : ins p 2 0 n1 = true
          · rw [show wrm n1 n2 n3 x1 x2 x3 p 2 v = (x1, x2, x3, 3) from by rw [wrm, if_pos ⟨hm, hs⟩, if_neg hna, if_neg hp, if_pos hi]]
            exact sWrite_flash2 b1 o1 b2 o2 b3 o3 n1 c1 n2 c2 n3 c3 x1 x2 x3 p v w h1 h2 h3 hn hv hm ha (by simpa using hp) hi
          · have hi : ins p 2 0 n1 = false := by simpa using hi
            by_cases hj : ins p 2 65536 n2 = true
            · have hj' := hj
              simp [ins] at hj'
              obtain ⟨k, hk⟩ := Int.eq_ofNat_of_zero_le (show 0 ≤ p - 65536 by omega)
              rw [show wrm n1 n2 n3 x1 x2 x3 p 2 v = (x1, put x2 k v 2, x3, 0) from by rw [wrm, if_pos ⟨hm, hs⟩, if_neg hna, if_neg hp, if_neg (by rw [hi]; simp), if_pos hj, hk]; rfl]
              exact sWrite_ram2 b1 o1 b2 o2 b3 o3 n1 c1 n2 c2 n3 c3 x1 x2 x3 k p v w h1 h2 h3 hn hv hm (by rw [Int.tmod_eq_emod_of_nonneg (by omega)] at ha; exact ha) hk (by omega)
            · have hj : ins p 2 65536 n2 = false := by simpa using hj
              rw [show wrm n1 n2 n3 x1 x2 x3 p 2 v = (x1, x2, x3, 2) from by rw [wrm, if_pos ⟨hm, hs⟩, if_neg hna, if_neg hp, if_neg (by rw [hi]; simp), if_neg (by rw [hj]; simp)]]
              exact sWrite_bus2 b1 o1 b2 o2 b3 o3 n1 c1 n2 c2 n3 c3 x1 x2 x3 p v w h1 h2 h3 hn hv hm ha (by simpa using hp) hi hj
    · by_cases ha : (p.tmod 1 != 0) = true
      · rw [tmod1] at ha
        exact absurd ha (by simp)
      · have hna := ha
        have ha : (p.tmod 1 != 0) = false := by simp
        by_cases hp : p = 131072
        · subst hp
          by_cases hf : 5000 ≤ n3
          · rw [show wrm n1 n2 n3 x1 x2 x3 131072 1 v = (x1, x2, x3, 4) from by rw [wrm, if_pos ⟨hm, hs⟩, if_neg hna, if_pos rfl, if_pos hf]]
            exact sWrite_full1 b1 o1 b2 o2 b3 o3 n1 c1 n2 c2 n3 c3 x1 x2 x3 v w h1 h2 h3 hn hv hm hf
          · rw [show wrm n1 n2 n3 x1 x2 x3 131072 1 v = (x1, x2, x3 ++ [v % 256], 0) from by rw [wrm, if_pos ⟨hm, hs⟩, if_neg hna, if_pos rfl, if_neg hf]]
            exact sWrite_port1 b1 o1 b2 o2 b3 o3 n1 c1 n2 c2 n3 c3 x1 x2 x3 v w h1 h2 h3 hn hv hm (by omega)
        · by_cases hi : ins p 1 0 n1 = true
          · rw [show wrm n1 n2 n3 x1 x2 x3 p 1 v = (x1, x2, x3, 3) from by rw [wrm, if_pos ⟨hm, hs⟩, if_neg hna, if_neg hp, if_pos hi]]
            exact sWrite_flash1 b1 o1 b2 o2 b3 o3 n1 c1 n2 c2 n3 c3 x1 x2 x3 p v w h1 h2 h3 hn hv hm ha (by simpa using hp) hi
          · have hi : ins p 1 0 n1 = false := by simpa using hi
            by_cases hj : ins p 1 65536 n2 = true
            · have hj' := hj
              simp [ins] at hj'
              obtain ⟨k, hk⟩ := Int.eq_ofNat_of_zero_le (show 0 ≤ p - 65536 by omega)
              rw [show wrm n1 n2 n3 x1 x2 x3 p 1 v = (x1, put x2 k v 1, x3, 0) from by rw [wrm, if_pos ⟨hm, hs⟩, if_neg hna, if_neg hp, if_neg (by rw [hi]; simp), if_pos hj, hk]; rfl]
              exact sWrite_ram1 b1 o1 b2 o2 b3 o3 n1 c1 n2 c2 n3 c3 x1 x2 x3 k p v w h1 h2 h3 hn hv hm (by rw [Int.tmod_eq_emod_of_nonneg (by omega)] at ha; exact ha) hk (by omega)
            · have hj : ins p 1 65536 n2 = false := by simpa using hj
              rw [show wrm n1 n2 n3 x1 x2 x3 p 1 v = (x1, x2, x3, 2) from by rw [wrm, if_pos ⟨hm, hs⟩, if_neg hna, if_neg hp, if_neg (by rw [hi]; simp), if_neg (by rw [hj]; simp)]]
              exact sWrite_bus1 b1 o1 b2 o2 b3 o3 n1 c1 n2 c2 n3 c3 x1 x2 x3 p v w h1 h2 h3 hn hv hm ha (by simpa using hp) hi hj
  · rw [show wrm n1 n2 n3 x1 x2 x3 p s v = (x1, x2, x3, 2) from by rw [wrm, if_neg hb]]
    by_cases hm : mok n1 n2 n3 = true
    · refine sWrite_bads b1 o1 b2 o2 b3 o3 n1 c1 n2 c2 n3 c3 x1 x2 x3 p s v w h1 h2 h3 hn hv hm ?_
      by_cases hs : wd s = true
      · exact absurd ⟨hm, hs⟩ hb
      · simpa using hs
    · exact sWrite_badm b1 o1 b2 o2 b3 o3 n1 c1 n2 c2 n3 c3 x1 x2 x3 p s v w h1 h2 h3 hn hv (by simpa using hm)

end Go.Proofs.YtaillnegkfagfacGreat

namespace Go.Proofs.YtaillnegkfagfacGreat
open Go.RowKit
set_option linter.unusedVariables false
set_option linter.unusedSimpArgs false
set_option maxRecDepth 100000

theorem shl_facts (d a Q : Int) (d0 : 0 ≤ d) (a0 : 0 ≤ a) (hQ : Q = (2:Int)^(a % 32).toNat) : 0 < 4294967296 / Q ∧ 4294967296 / Q ≤ 4294967296 ∧ 0 ≤ d % (4294967296 / Q) ∧ d % (4294967296 / Q) ≤ 4294967296 ∧ 0 ≤ d % (4294967296 / Q) * Q ∧ d % (4294967296 / Q) * Q ≤ 4294967295 ∧ d % (4294967296 / Q) * Q = (d * (2:Int)^(a % 32).toNat) % 4294967296 := by
  have hp := pow_pos (a % 32).toNat
  have h1 : (4294967296 : Int) = (2:Int)^(32 - (a % 32).toNat) * (2:Int)^(a % 32).toNat := by rw [← Int.pow_add, show 32 - (a % 32).toNat + (a % 32).toNat = 32 by omega]; rfl
  have h2 : (4294967296 : Int) / Q = (2:Int)^(32 - (a % 32).toNat) := by
    rw [hQ, h1]
    exact Int.mul_ediv_cancel _ (by omega)
  have hp2 := pow_pos (32 - (a % 32).toNat)
  have hs := shl_split d (a % 32).toNat (by omega)
  rw [← hQ] at hs
  have hle : (4294967296 : Int) / Q ≤ 4294967296 := by
    rw [h2, h1]
    have := Int.mul_le_mul_of_nonneg_left (show (1:Int) ≤ (2:Int)^(a % 32).toNat by omega) (show 0 ≤ (2:Int)^(32 - (a % 32).toNat) by omega)
    omega
  have hm0 : 0 ≤ d % (4294967296 / Q) := Int.emod_nonneg _ (by omega)
  have hm1 : d % (4294967296 / Q) < 4294967296 / Q := Int.emod_lt_of_pos _ (by omega)
  rw [← hQ]
  refine ⟨by omega, hle, hm0, by omega, ?_, ?_, hs⟩
  · rw [hs]; omega
  · rw [hs]; omega

set_option maxHeartbeats 1000000 in
theorem l3Alu_13 (dd aa i d a : Int) (w : World) (d0 : 0 ≤ d) (d1 : d ≤ 4294967295) (a0 : 0 ≤ a) (a1 : a ≤ 4294967295) :
    Calls Tryz.prog 25 #[.agg #[.int .i64 13, .int .i64 dd, .int .i64 aa, .int .i64 i], .int .i64 d, .int .i64 a] w fun e w' => e = .returned (.int .i64 (alu 13 i d a)) ∧ Below w.heap.size w w' := by
  have hp := pw15 (a % 16).toNat (by omega)
  have hp0 := pow_pos (a % 16).toNat
  have HP := hide (fun w => l2Power_any (a % 16) (by omega) (by omega) w)
  obtain ⟨s1, s2⟩ := pow_shift a a0
  rw [show alu 13 i d a = d / (2:Int)^(a % 32).toNat from rfl]
  generalize (2:Int)^(a % 16).toNat = P at *
  generalize (2:Int)^(a % 32).toNat = S at *
  by_cases hs : 16 ≤ a % 32
  · have HS := hide (s2 hs)
    clear s1 s2
    rw [← HS.out]
    have hz : (P * 65536 == 0) = false := by simp; omega
    go_enter Tryz.func25, Tryz.ntmps25
    go_wp2_with (go_at_call 39; refine (HP.out _).mono ?_; rintro e w' ⟨rfl, rfl⟩)
    go_ret
    exact ⟨rfl, (Below.refl _ _).alloc (Nat.le_refl _) _⟩
  · have HS := hide (s1 (by omega))
    clear s1 s2
    rw [← HS.out]
    have hz : (P == 0) = false := by simp; omega
    go_enter Tryz.func25, Tryz.ntmps25
    go_wp2_with (go_at_call 39; refine (HP.out _).mono ?_; rintro e w' ⟨rfl, rfl⟩)
    go_ret
    exact ⟨rfl, (Below.refl _ _).alloc (Nat.le_refl _) _⟩

set_option maxHeartbeats 1000000 in
theorem l3Alu_12 (dd aa i d a : Int) (w : World) (d0 : 0 ≤ d) (d1 : d ≤ 4294967295) (a0 : 0 ≤ a) (a1 : a ≤ 4294967295) :
    Calls Tryz.prog 25 #[.agg #[.int .i64 12, .int .i64 dd, .int .i64 aa, .int .i64 i], .int .i64 d, .int .i64 a] w fun e w' => e = .returned (.int .i64 (alu 12 i d a)) ∧ Below w.heap.size w w' := by
  have hp := pw15 (a % 16).toNat (by omega)
  have hp0 := pow_pos (a % 16).toNat
  have HP := hide (fun w => l2Power_any (a % 16) (by omega) (by omega) w)
  obtain ⟨s1, s2⟩ := pow_shift a a0
  rw [show alu 12 i d a = (d * (2:Int)^(a % 32).toNat) % 4294967296 from rfl]
  by_cases hs : 16 ≤ a % 32
  · obtain ⟨f1, f2, f3, f4, f5, f6, f7⟩ := shl_facts d a _ d0 a0 (s2 hs)
    have HS := hide f7
    clear s1 s2 f7
    rw [← HS.out]
    clear HS
    generalize (2:Int)^(a % 16).toNat = P at *
    have hz : (P * 65536 == 0) = false := by simp; omega
    have hz2 : (4294967296 / (P * 65536) == 0) = false := by simp; omega
    go_enter Tryz.func25, Tryz.ntmps25
    go_wp2_with (go_at_call 39; refine (HP.out _).mono ?_; rintro e w' ⟨rfl, rfl⟩)
    go_ret
    exact ⟨rfl, (Below.refl _ _).alloc (Nat.le_refl _) _⟩
  · obtain ⟨f1, f2, f3, f4, f5, f6, f7⟩ := shl_facts d a _ d0 a0 (s1 (by omega))
    have HS := hide f7
    clear s1 s2 f7
    rw [← HS.out]
    clear HS
    generalize (2:Int)^(a % 16).toNat = P at *
    have hz : (P == 0) = false := by simp; omega
    have hz2 : (4294967296 / P == 0) = false := by simp; omega
    go_enter Tryz.func25, Tryz.ntmps25
    go_wp2_with (go_at_call 39; refine (HP.out _).mono ?_; rintro e w' ⟨rfl, rfl⟩)
    go_ret
    exact ⟨rfl, (Below.refl _ _).alloc (Nat.le_refl _) _⟩

theorem l3Alu_any (op dd aa i d a : Int) (w : World) (o0 : 2 ≤ op) (o1 : op ≤ 13) (i0 : 0 ≤ i) (i1 : i ≤ 65535) (d0 : 0 ≤ d) (d1 : d ≤ 4294967295) (a0 : 0 ≤ a) (a1 : a ≤ 4294967295) :
    Calls Tryz.prog 25 #[.agg #[.int .i64 op, .int .i64 dd, .int .i64 aa, .int .i64 i], .int .i64 d, .int .i64 a] w fun e w' => e = .returned (.int .i64 (alu op i d a)) ∧ Below w.heap.size w w' := by
  have : op = 2 ∨ op = 3 ∨ op = 4 ∨ op = 5 ∨ op = 6 ∨ op = 7 ∨ op = 8 ∨ op = 9 ∨ op = 10 ∨ op = 11 ∨ op = 12 ∨ op = 13 := by omega
  rcases this with rfl | rfl | rfl | rfl | rfl | rfl | rfl | rfl | rfl | rfl | rfl | rfl
  · exact l3Alu_2 dd aa i d a w i0 i1 d0 d1 a0 a1
  · exact l3Alu_3 dd aa i d a w i0 i1 d0 d1 a0 a1
  · exact l3Alu_4 dd aa i d a w i0 i1 d0 d1 a0 a1
  · exact l3Alu_5 dd aa i d a w i0 i1 d0 d1 a0 a1
  · exact l3Alu_6 dd aa i d a w i0 i1 d0 d1 a0 a1
  · exact l3Alu_7 dd aa i d a w i0 i1 d0 d1 a0 a1
  · exact l3Alu_8 dd aa i d a w i0 i1 d0 d1 a0 a1
  · exact l3Alu_9 dd aa i d a w i0 i1 d0 d1 a0 a1
  · exact l3Alu_10 dd aa i d a w i0 i1 d0 d1 a0 a1
  · exact l3Alu_11 dd aa i d a w i0 i1 d0 d1 a0 a1
  · exact l3Alu_12 dd aa i d a w d0 d1 a0 a1
  · exact l3Alu_13 dd aa i d a w d0 d1 a0 a1
end Go.Proofs.YtaillnegkfagfacGreat
