import Derived.Test.YtngdgogjlpjjpadGreatK33
namespace Go.Proofs.YtngdgogjlpjjpadGreat
open Go.RowKit
set_option linter.unusedVariables false

theorem ob_room' {w : World} {base g n cap m : Nat} {zs : List Int} (h : OB w base (.slice (some ⟨g, 0, none⟩) n cap) zs) (hm : m ≤ n) : Room w g m := by
  obtain ⟨cur, hb, hn⟩ := ob_room h
  exact ⟨cur, hb, by omega⟩

/-- one byte behind Out -/
theorem hold_out {w W W' : World} {base go : Nat} {bx : Array Value} {v1 v2 v3 v' : Value} {x1 x2 x3 : List Int} {z : Int} (h : Hold w W base go bx v1 v2 v3 x1 x2 x3) (hz : 0 ≤ z ∧ z ≤ 255)
    (bs : Nat) (hbs : base ≤ bs) (h1 : ∀ k, v1.ownBlock = some k → k < bs) (h2 : ∀ k, v2.ownBlock = some k → k < bs)
    (ho : W'.ownsRow bs 5 1 v' (x3.length + 1) (x3.map (Value.int .u8) ++ [Value.int .u8 z])) (hg : (W.alloc (.cells #[.int .u8 z] 5)).grownBy W' v3.ownBlock) :
    Hold w (W'.setCell ⟨go, 2, none⟩ v') base go bx v1 v2 v' x1 x2 (x3 ++ [z]) := by
  have hb := h.big
  have hgb := h.gobig
  have e3 : ∀ k, v3.ownBlock = some k → base ≤ k := fun k hk => (h.own.2.2.1.lt k hk).1
  have f1 : v1.ownBlock = none ∨ v1.ownBlock ≠ v3.ownBlock := by
    cases e : v1.ownBlock with
    | none => exact Or.inl rfl
    | some k => right; intro e'; exact Nat.lt_irrefl _ (h.own.2.2.2.2.1 k k e e'.symm)
  have f2 : v2.ownBlock = none ∨ v2.ownBlock ≠ v3.ownBlock := by
    cases e : v2.ownBlock with
    | none => exact Or.inl rfl
    | some k => right; intro e'; exact Nat.lt_irrefl _ (h.own.2.2.2.2.2 k k e e'.symm)
  have kb := grown_blk hg (h.box.alloc (.cells #[.int .u8 z] 5)) (fun e => by have := e3 _ e.symm; omega)
  have kr := grown_blk hg (h.res.alloc (.cells #[.int .u8 z] 5)) (fun e => by have := e3 _ e.symm; omega)
  have ko := grown_blk hg (h.out.alloc (.cells #[.int .u8 z] 5)) (fun e => h.far v3 (Or.inr (Or.inr rfl)) e.symm)
  have hfar : v'.ownBlock ≠ some go := by
    intro e
    obtain ⟨_, ⟨rfl, _⟩ | ⟨g, cap, cur, rfl, hgg, hh, _⟩⟩ := ho
    · simp [Value.ownBlock] at e
    · simp [Value.ownBlock] at e
      subst e
      unfold Blk at ko
      rw [ko] at hh
      simp at hh
  have hB : Below w.heap.size w (W.alloc (.cells #[.int .u8 z] 5)) := h.below.alloc h.below.size _
  have o1 := grown_ob hg (own3_alloc h.own (.cells #[.int .u8 z] 5)).1 f1
  have o2 := grown_ob hg (own3_alloc h.own (.cells #[.int .u8 z] 5)).2.1 f2
  have o3 : OB W' bs v' (x3 ++ [z]) := ⟨by simpa using ho, fun y hy => by
    rcases List.mem_append.1 hy with hy | hy
    · exact h.own.2.2.1.2 y hy
    · simp at hy; subst hy; exact hz⟩
  refine ⟨(hB.grown hg (by have := hB.size; omega) (fun k hk => by have := e3 k hk; omega)).setCell (by dsimp only; omega) _, hb, hgb, kb.other _ _ (by dsimp only; omega), kr.other _ _ (by dsimp only; omega), ?_, ⟨?_, ?_, ?_, h.own.2.2.2.1, ?_, ?_⟩, ?_⟩
  · have := ko.set 2 v'
    simpa using this
  · exact ob_far (g := go) o1 _ _ (h.far v1 (Or.inl rfl))
  · exact ob_far (g := go) o2 _ _ (h.far v2 (Or.inr (Or.inl rfl)))
  · exact (ob_far (g := go) o3 _ _ hfar).mono hbs
  · intro k j hk hj
    have := h1 k hk
    have := o3.lt j hj
    omega
  · intro k j hk hj
    have := h2 k hk
    have := o3.lt j hj
    omega
  · intro v hv
    rcases hv with rfl | rfl | rfl
    · exact h.far _ (Or.inl rfl)
    · exact h.far _ (Or.inr (Or.inl rfl))
    · exact hfar
/-- where the bytes behind Out may lie -/
theorem out_base {w W : World} {base go : Nat} {bx : Array Value} {v1 v2 v3 : Value} {x1 x2 x3 : List Int} (h : Hold w W base go bx v1 v2 v3 x1 x2 x3) :
    ∃ bs, base ≤ bs ∧ bs ≤ W.heap.size ∧ (∀ k, v1.ownBlock = some k → k < bs) ∧ (∀ k, v2.ownBlock = some k → k < bs) ∧ W.ownsRow bs 5 1 v3 x3.length (x3.map (Value.int .u8)) := by
  obtain ⟨hl, ⟨h0, h0'⟩ | ⟨g, cap, cur, hv, hg, hh, a1, a2, a3, a4⟩⟩ := h.own.2.2.1.1
  · refine ⟨W.heap.size, by have := h.out.lt; have := h.gobig; omega, Nat.le_refl _, fun k hk => (h.own.1.lt k hk).2, fun k hk => (h.own.2.1.lt k hk).2, hl, .inl ⟨h0, h0'⟩⟩
  · refine ⟨g, hg, Nat.le_of_lt (Blk.lt (w := W) hh), fun k hk => h.own.2.2.2.2.1 k g hk (by rw [hv]; rfl), fun k hk => h.own.2.2.2.2.2 k g hk (by rw [hv]; rfl), hl, .inr ⟨g, cap, cur, hv, Nat.le_refl _, hh, a1, a2, a3, a4⟩⟩

set_option maxRecDepth 100000 in
set_option maxHeartbeats 1000000 in
theorem sWrite_port4 (b1 o1 b2 o2 b3 o3 n1 c1 n2 c2 n3 c3 : Nat) (x1 x2 x3 : List Int)  (v : Int) (w : World) (h1 : BS w (some ⟨b1, o1, none⟩) n1 c1 x1) (h2 : BS w (some ⟨b2, o2, none⟩) n2 c2 x2) (h3 : BS w (some ⟨b3, o3, none⟩) n3 c3 x3) (hn : n1 + n2 + n3 ≤ 1048576) (hv : -9223372036854775808 ≤ v ∧ v ≤ 9223372036854775807) (h : mok n1 n2 n3 = true) (hfree : n3 < 5000) :
    Calls Tryz.prog 166 #[.agg #[.slice (some ⟨b1, o1, none⟩) n1 c1, .slice (some ⟨b2, o2, none⟩) n2 c2, .slice (some ⟨b3, o3, none⟩) n3 c3], .int .i64 131072, .int .i64 4, .int .i64 v] w (WrPost w (x1, x2, x3 ++ [v % 256], 0)) := by
  have hB0 : Below w.heap.size w ((w.alloc (.cells #[.slice (some ⟨b1, o1, none⟩) n1 c1, .slice (some ⟨b2, o2, none⟩) n2 c2, .slice (some ⟨b3, o3, none⟩) n3 c3] 38)).alloc (.cells #[.slice none 0 0, .slice none 0 0, .slice none 0 0] 38)) := ((Below.refl _ _).alloc (Nat.le_refl _) _).alloc (by simp) _
  obtain ⟨i0, hi, hz0, hz1, hz2⟩ := info_parts info8
  have hfree' : ¬ (5000 : Int) ≤ (n3 : Int) := by omega
  have hx3 := h3.1
  go_enter Tryz.func166, Tryz.ntmps166
  go_wp2_with fail
  refine (l1Copy_any b1 o1 b2 o2 b3 o3 n1 c1 n2 c2 n3 c3 x1 x2 x3 _ (h1.below hB0) (h2.below hB0) (h3.below hB0) hn).mono ?_
  rintro e w1 ⟨a1, d1, a2, d2, a3, d3, rfl, hO, hb1⟩
  have H := hold_start (bx := #[.slice (some ⟨b1, o1, none⟩) n1 c1, .slice (some ⟨b2, o2, none⟩) n2 c2, .slice (some ⟨b3, o3, none⟩) n3 c3]) hO hb1
  have hgo := hb1.size
  simp only [World.size_alloc] at hgo
  clear hO hb1
  obtain ⟨q1, q2, q3, q4⟩ := H.box.three
  obtain ⟨q5, q6, q7, q8⟩ := H.res.three
  obtain ⟨q9, q10, q11, q12⟩ := H.out.three
  go_wp2_with fail
  refine (sMemOk_any (some ⟨b1, o1, none⟩) (some ⟨b2, o2, none⟩) (some ⟨b3, o3, none⟩) n1 c1 n2 c2 n3 c3 _).mono ?_
  rw [h]
  rintro e w2 ⟨rfl, hbx⟩
  have H := H.step hbx
  clear hbx q1 q2 q3 q4 q5 q6 q7 q8 q9 q10 q11 q12
  obtain ⟨q1, q2, q3, q4⟩ := H.box.three
  obtain ⟨q5, q6, q7, q8⟩ := H.res.three
  obtain ⟨q9, q10, q11, q12⟩ := H.out.three
  go_wp2_with fail
  refine (l1Size_any 4 _).mono ?_
  rw [wd4]
  rintro e wx ⟨rfl, rfl⟩
  go_wp2_with fail
  refine (l1Word_any v _ hv).mono ?_
  rintro e wx ⟨rfl, rfl⟩
  have hu : 0 ≤ v % 4294967296 ∧ v % 4294967296 ≤ 4294967295 := by omega
  have HU := hide (show v % 256 = v % 4294967296 % 256 by omega)
  generalize v % 4294967296 = u at *
  obtain ⟨hu0, hu1⟩ := hu
  obtain ⟨bs, hbs, hbs', f1, f2, hown⟩ := out_base H
  rw [hx3] at hown
  have HOWN := hide (hown.alloc (.cells #[.int .u8 (u % 256)] 5))
  have HF1 := hide f1
  have HF2 := hide f2
  have HS := hide hx3
  clear hown f1 f2 hx3
  go_wp2_with (at_builtin; refine wpList_append_own _ rfl _ _ 22 rfl bs 5 i0 (.int .u8 0) 1 1 Tryz.underlying22 hi hz0 hz1 hz2 rfl (by decide) _ n3 (x3.map (Value.int .u8)) rfl HOWN.out ⟨w2.heap.size, 0, none⟩ 1 1 [.int .u8 (u % 256)] rfl rfl (cell_one_new _ _ _) (by intro u hu; simp at hu; subst hu; rfl) (by unfold maxLen; omega) (by omega) (by simp; omega) ?_; intro v' w3 hown3 hgr3 _; obtain ⟨a', d', he⟩ := own_shape hown3; subst he; have H3 := hold_out H (z := u % 256) (by omega) bs hbs HF1.out HF2.out (by rw [HS.out]; exact hown3) hgr3; obtain ⟨q5, q6, q7, q8⟩ := (grown_blk hgr3 (H.res.alloc (.cells #[.int .u8 (u % 256)] 5)) (fun e => by have := (H.own.2.2.1.lt _ e.symm).1; omega)).three; obtain ⟨q9, q10, q11, q12⟩ := (grown_blk hgr3 (H.out.alloc (.cells #[.int .u8 (u % 256)] 5)) (fun e => H.far _ (Or.inr (Or.inr rfl)) e.symm)).three; clear hown3 hgr3)
  obtain ⟨r5, r6, r7, r8⟩ := H3.res.three
  refine bodyPost_ret (v := .tuple #[.agg #[.slice a1 n1 d1, .slice a2 n2 d2, .slice a' (n3 + 1) d'], .int .i64 0]) (by simp [results, Tryz.results166, go_sem, r5, r6, r7]) rfl ⟨a1, n1, d1, a2, n2, d2, a', n3 + 1, d', rfl, ?_, H3.done.2⟩
  rw [show (x1, x2, x3 ++ [v % 256], (0:Int)).2.2.1 = x3 ++ [u % 256] from by rw [← HU.out]]
  exact H3.done.1

set_option maxRecDepth 100000 in
set_option maxHeartbeats 1000000 in
theorem sWrite_port2 (b1 o1 b2 o2 b3 o3 n1 c1 n2 c2 n3 c3 : Nat) (x1 x2 x3 : List Int)  (v : Int) (w : World) (h1 : BS w (some ⟨b1, o1, none⟩) n1 c1 x1) (h2 : BS w (some ⟨b2, o2, none⟩) n2 c2 x2) (h3 : BS w (some ⟨b3, o3, none⟩) n3 c3 x3) (hn : n1 + n2 + n3 ≤ 1048576) (hv : -9223372036854775808 ≤ v ∧ v ≤ 9223372036854775807) (h : mok n1 n2 n3 = true) (hfree : n3 < 5000) :
    Calls Tryz.prog 166 #[.agg #[.slice (some ⟨b1, o1, none⟩) n1 c1, .slice (some ⟨b2, o2, none⟩) n2 c2, .slice (some ⟨b3, o3, none⟩) n3 c3], .int .i64 131072, .int .i64 2, .int .i64 v] w (WrPost w (x1, x2, x3 ++ [v % 256], 0)) := by
  have hB0 : Below w.heap.size w ((w.alloc (.cells #[.slice (some ⟨b1, o1, none⟩) n1 c1, .slice (some ⟨b2, o2, none⟩) n2 c2, .slice (some ⟨b3, o3, none⟩) n3 c3] 38)).alloc (.cells #[.slice none 0 0, .slice none 0 0, .slice none 0 0] 38)) := ((Below.refl _ _).alloc (Nat.le_refl _) _).alloc (by simp) _
  obtain ⟨i0, hi, hz0, hz1, hz2⟩ := info_parts info8
  have hfree' : ¬ (5000 : Int) ≤ (n3 : Int) := by omega
  have hx3 := h3.1
  go_enter Tryz.func166, Tryz.ntmps166
  go_wp2_with fail
  refine (l1Copy_any b1 o1 b2 o2 b3 o3 n1 c1 n2 c2 n3 c3 x1 x2 x3 _ (h1.below hB0) (h2.below hB0) (h3.below hB0) hn).mono ?_
  rintro e w1 ⟨a1, d1, a2, d2, a3, d3, rfl, hO, hb1⟩
  have H := hold_start (bx := #[.slice (some ⟨b1, o1, none⟩) n1 c1, .slice (some ⟨b2, o2, none⟩) n2 c2, .slice (some ⟨b3, o3, none⟩) n3 c3]) hO hb1
  have hgo := hb1.size
  simp only [World.size_alloc] at hgo
  clear hO hb1
  obtain ⟨q1, q2, q3, q4⟩ := H.box.three
  obtain ⟨q5, q6, q7, q8⟩ := H.res.three
  obtain ⟨q9, q10, q11, q12⟩ := H.out.three
  go_wp2_with fail
  refine (sMemOk_any (some ⟨b1, o1, none⟩) (some ⟨b2, o2, none⟩) (some ⟨b3, o3, none⟩) n1 c1 n2 c2 n3 c3 _).mono ?_
  rw [h]
  rintro e w2 ⟨rfl, hbx⟩
  have H := H.step hbx
  clear hbx q1 q2 q3 q4 q5 q6 q7 q8 q9 q10 q11 q12
  obtain ⟨q1, q2, q3, q4⟩ := H.box.three
  obtain ⟨q5, q6, q7, q8⟩ := H.res.three
  obtain ⟨q9, q10, q11, q12⟩ := H.out.three
  go_wp2_with fail
  refine (l1Size_any 2 _).mono ?_
  rw [wd2]
  rintro e wx ⟨rfl, rfl⟩
  go_wp2_with fail
  refine (l1Word_any v _ hv).mono ?_
  rintro e wx ⟨rfl, rfl⟩
  have hu : 0 ≤ v % 4294967296 ∧ v % 4294967296 ≤ 4294967295 := by omega
  have HU := hide (show v % 256 = v % 4294967296 % 256 by omega)
  generalize v % 4294967296 = u at *
  obtain ⟨hu0, hu1⟩ := hu
  obtain ⟨bs, hbs, hbs', f1, f2, hown⟩ := out_base H
  rw [hx3] at hown
  have HOWN := hide (hown.alloc (.cells #[.int .u8 (u % 256)] 5))
  have HF1 := hide f1
  have HF2 := hide f2
  have HS := hide hx3
  clear hown f1 f2 hx3
  go_wp2_with (at_builtin; refine wpList_append_own _ rfl _ _ 22 rfl bs 5 i0 (.int .u8 0) 1 1 Tryz.underlying22 hi hz0 hz1 hz2 rfl (by decide) _ n3 (x3.map (Value.int .u8)) rfl HOWN.out ⟨w2.heap.size, 0, none⟩ 1 1 [.int .u8 (u % 256)] rfl rfl (cell_one_new _ _ _) (by intro u hu; simp at hu; subst hu; rfl) (by unfold maxLen; omega) (by omega) (by simp; omega) ?_; intro v' w3 hown3 hgr3 _; obtain ⟨a', d', he⟩ := own_shape hown3; subst he; have H3 := hold_out H (z := u % 256) (by omega) bs hbs HF1.out HF2.out (by rw [HS.out]; exact hown3) hgr3; obtain ⟨q5, q6, q7, q8⟩ := (grown_blk hgr3 (H.res.alloc (.cells #[.int .u8 (u % 256)] 5)) (fun e => by have := (H.own.2.2.1.lt _ e.symm).1; omega)).three; obtain ⟨q9, q10, q11, q12⟩ := (grown_blk hgr3 (H.out.alloc (.cells #[.int .u8 (u % 256)] 5)) (fun e => H.far _ (Or.inr (Or.inr rfl)) e.symm)).three; clear hown3 hgr3)
  obtain ⟨r5, r6, r7, r8⟩ := H3.res.three
  refine bodyPost_ret (v := .tuple #[.agg #[.slice a1 n1 d1, .slice a2 n2 d2, .slice a' (n3 + 1) d'], .int .i64 0]) (by simp [results, Tryz.results166, go_sem, r5, r6, r7]) rfl ⟨a1, n1, d1, a2, n2, d2, a', n3 + 1, d', rfl, ?_, H3.done.2⟩
  rw [show (x1, x2, x3 ++ [v % 256], (0:Int)).2.2.1 = x3 ++ [u % 256] from by rw [← HU.out]]
  exact H3.done.1

set_option maxRecDepth 100000 in
set_option maxHeartbeats 1000000 in
theorem sWrite_port1 (b1 o1 b2 o2 b3 o3 n1 c1 n2 c2 n3 c3 : Nat) (x1 x2 x3 : List Int)  (v : Int) (w : World) (h1 : BS w (some ⟨b1, o1, none⟩) n1 c1 x1) (h2 : BS w (some ⟨b2, o2, none⟩) n2 c2 x2) (h3 : BS w (some ⟨b3, o3, none⟩) n3 c3 x3) (hn : n1 + n2 + n3 ≤ 1048576) (hv : -9223372036854775808 ≤ v ∧ v ≤ 9223372036854775807) (h : mok n1 n2 n3 = true) (hfree : n3 < 5000) :
    Calls Tryz.prog 166 #[.agg #[.slice (some ⟨b1, o1, none⟩) n1 c1, .slice (some ⟨b2, o2, none⟩) n2 c2, .slice (some ⟨b3, o3, none⟩) n3 c3], .int .i64 131072, .int .i64 1, .int .i64 v] w (WrPost w (x1, x2, x3 ++ [v % 256], 0)) := by
  have hB0 : Below w.heap.size w ((w.alloc (.cells #[.slice (some ⟨b1, o1, none⟩) n1 c1, .slice (some ⟨b2, o2, none⟩) n2 c2, .slice (some ⟨b3, o3, none⟩) n3 c3] 38)).alloc (.cells #[.slice none 0 0, .slice none 0 0, .slice none 0 0] 38)) := ((Below.refl _ _).alloc (Nat.le_refl _) _).alloc (by simp) _
  obtain ⟨i0, hi, hz0, hz1, hz2⟩ := info_parts info8
  have hfree' : ¬ (5000 : Int) ≤ (n3 : Int) := by omega
  have hx3 := h3.1
  go_enter Tryz.func166, Tryz.ntmps166
  go_wp2_with fail
  refine (l1Copy_any b1 o1 b2 o2 b3 o3 n1 c1 n2 c2 n3 c3 x1 x2 x3 _ (h1.below hB0) (h2.below hB0) (h3.below hB0) hn).mono ?_
  rintro e w1 ⟨a1, d1, a2, d2, a3, d3, rfl, hO, hb1⟩
  have H := hold_start (bx := #[.slice (some ⟨b1, o1, none⟩) n1 c1, .slice (some ⟨b2, o2, none⟩) n2 c2, .slice (some ⟨b3, o3, none⟩) n3 c3]) hO hb1
  have hgo := hb1.size
  simp only [World.size_alloc] at hgo
  clear hO hb1
  obtain ⟨q1, q2, q3, q4⟩ := H.box.three
  obtain ⟨q5, q6, q7, q8⟩ := H.res.three
  obtain ⟨q9, q10, q11, q12⟩ := H.out.three
  go_wp2_with fail
  refine (sMemOk_any (some ⟨b1, o1, none⟩) (some ⟨b2, o2, none⟩) (some ⟨b3, o3, none⟩) n1 c1 n2 c2 n3 c3 _).mono ?_
  rw [h]
  rintro e w2 ⟨rfl, hbx⟩
  have H := H.step hbx
  clear hbx q1 q2 q3 q4 q5 q6 q7 q8 q9 q10 q11 q12
  obtain ⟨q1, q2, q3, q4⟩ := H.box.three
  obtain ⟨q5, q6, q7, q8⟩ := H.res.three
  obtain ⟨q9, q10, q11, q12⟩ := H.out.three
  go_wp2_with fail
  refine (l1Size_any 1 _).mono ?_
  rw [wd1]
  rintro e wx ⟨rfl, rfl⟩
  go_wp2_with fail
  refine (l1Word_any v _ hv).mono ?_
  rintro e wx ⟨rfl, rfl⟩
  have hu : 0 ≤ v % 4294967296 ∧ v % 4294967296 ≤ 4294967295 := by omega
  have HU := hide (show v % 256 = v % 4294967296 % 256 by omega)
  generalize v % 4294967296 = u at *
  obtain ⟨hu0, hu1⟩ := hu
  obtain ⟨bs, hbs, hbs', f1, f2, hown⟩ := out_base H
  rw [hx3] at hown
  have HOWN := hide (hown.alloc (.cells #[.int .u8 (u % 256)] 5))
  have HF1 := hide f1
  have HF2 := hide f2
  have HS := hide hx3
  clear hown f1 f2 hx3
  go_wp2_with (at_builtin; refine wpList_append_own _ rfl _ _ 22 rfl bs 5 i0 (.int .u8 0) 1 1 Tryz.underlying22 hi hz0 hz1 hz2 rfl (by decide) _ n3 (x3.map (Value.int .u8)) rfl HOWN.out ⟨w2.heap.size, 0, none⟩ 1 1 [.int .u8 (u % 256)] rfl rfl (cell_one_new _ _ _) (by intro u hu; simp at hu; subst hu; rfl) (by unfold maxLen; omega) (by omega) (by simp; omega) ?_; intro v' w3 hown3 hgr3 _; obtain ⟨a', d', he⟩ := own_shape hown3; subst he; have H3 := hold_out H (z := u % 256) (by omega) bs hbs HF1.out HF2.out (by rw [HS.out]; exact hown3) hgr3; obtain ⟨q5, q6, q7, q8⟩ := (grown_blk hgr3 (H.res.alloc (.cells #[.int .u8 (u % 256)] 5)) (fun e => by have := (H.own.2.2.1.lt _ e.symm).1; omega)).three; obtain ⟨q9, q10, q11, q12⟩ := (grown_blk hgr3 (H.out.alloc (.cells #[.int .u8 (u % 256)] 5)) (fun e => H.far _ (Or.inr (Or.inr rfl)) e.symm)).three; clear hown3 hgr3)
  obtain ⟨r5, r6, r7, r8⟩ := H3.res.three
  refine bodyPost_ret (v := .tuple #[.agg #[.slice a1 n1 d1, .slice a2 n2 d2, .slice a' (n3 + 1) d'], .int .i64 0]) (by simp [results, Tryz.results166, go_sem, r5, r6, r7]) rfl ⟨a1, n1, d1, a2, n2, d2, a', n3 + 1, d', rfl, ?_, H3.done.2⟩
  rw [show (x1, x2, x3 ++ [v % 256], (0:Int)).2.2.1 = x3 ++ [u % 256] from by rw [← HU.out]]
  exact H3.done.1

end Go.Proofs.YtngdgogjlpjjpadGreat
