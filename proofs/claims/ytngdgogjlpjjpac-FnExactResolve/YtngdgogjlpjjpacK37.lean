import Derived.Test.YtngdgogjlpjjpacK36
namespace Go.Proofs.Ytngdgogjlpjjpac
open Go.RowKit
set_option linter.unusedVariables false
set_option linter.unusedSimpArgs false
set_option maxRecDepth 100000

theorem turn_at (c : Nat) (w : World) (r i : Nat) (v : Value) (h : r ≤ c) : Turn (fun j => j ≤ c) w (w.setCell ⟨r, i, none⟩ v) := ⟨rfl, rfl, rfl, by rw [size_setCell]; exact Nat.le_refl _, fun j hj hn => heap_setCell_other _ _ _ _ (fun e => hn (by dsimp only at e; omega))⟩
/-- WHAT STANDS WHATEVER IS DONE TO THE BLOCKS UP TO c. -/
def Stab (c : Nat) (R : World → Prop) : Prop := ∀ W W', Turn (fun j => j ≤ c) W W' → R W → R W'
theorem stab_i {c g : Nat} {zs : List Int} (h : c < g) : Stab c (fun W => RowI W g zs) := fun W W' t r => turn_blk t r (by show ¬ g ≤ c; omega)
theorem stab_8 {c g : Nat} {zs : List Int} (h : c < g) : Stab c (fun W => Row8 W g zs) := fun W W' t r => turn_blk t r (by show ¬ g ≤ c; omega)
theorem stab_t {c g : Nat} {zs : List ByteArray} (h : c < g) : Stab c (fun W => RowT W g zs) := fun W W' t r => turn_blk t r (by show ¬ g ≤ c; omega)
theorem stab_b {c g n : Nat} {bl : List Bk} (h : c < g) : Stab c (fun W => ∃ gs, gs.length = n ∧ RowB W g n gs bl) := fun W W' t r => by
  obtain ⟨gs, h1, ⟨cur, h2, h3⟩, h4, h5⟩ := r
  exact ⟨gs, h1, ⟨cur, turn_blk t h2 (by show ¬ g ≤ c; omega), h3⟩, fun i hi => ⟨turn_blk t (h4 i hi).1 (by show ¬ gs.getD i 0 ≤ c; have := (h4 i hi).2; omega), (h4 i hi).2⟩, h5⟩
theorem stab_x {c g : Nat} {es : List Ex} (h : c < g) : Stab c (fun W => RowX W g es) := fun W W' t r => by
  obtain ⟨⟨cur, h2, h3⟩, h4⟩ := r
  have e : W'.heap[g]? = W.heap[g]? := t.block g h2.lt (by show ¬ g ≤ c; omega)
  have key : ∀ o, W'.cell? ⟨g, o, none⟩ = W.cell? ⟨g, o, none⟩ := fun o => World.cell?_of_block (w := W) e
  refine ⟨⟨cur, turn_blk t h2 (by show ¬ g ≤ c; omega), h3⟩, fun i hi => ?_⟩
  obtain ⟨y1, y2, y3⟩ := h4 i hi
  exact ⟨(key _).trans y1, (key _).trans y2, (key _).trans y3⟩
theorem Stab.and {c : Nat} {R S : World → Prop} (h : Stab c R) (k : Stab c S) : Stab c (fun W => R W ∧ S W) := fun W W' t r => ⟨h W W' t r.1, k W W' t r.2⟩
/-- The copy as far as it has come. -/
structure TM (w W : World) (arg cs : Array Value) (R : World → Prop) : Prop where
  kb : Blk W w.heap.size arg 51
  kr : Blk W (w.heap.size + 1) #[.string ⟨#[]⟩, .slice none 0 0, .slice none 0 0, .slice none 0 0, .int .i64 0, .slice none 0 0, .slice none 0 0, .slice none 0 0] 56
  ko : Blk W (w.heap.size + 1 + 1) cs 56
  hB : Below w.heap.size w W
  rows : R W
  st : Stab (w.heap.size + 1 + 1) R
theorem TM.below {w W W' : World} {arg cs : Array Value} {R : World → Prop} (h : TM w W arg cs R) (hb : Below W.heap.size W W') : TM w W' arg cs R :=
  ⟨h.kb.below hb, h.kr.below hb, h.ko.below hb, h.hB.trans (hb.mono h.hB.size), h.st _ _ (turn_below hb) h.rows, h.st⟩
theorem TM.set {w W : World} {arg cs : Array Value} {R : World → Prop} (h : TM w W arg cs R) (i : Nat) (v : Value) : TM w (W.setCell ⟨w.heap.size + 1 + 1, i, none⟩ v) arg (cs.setIfInBounds i v) R :=
  ⟨h.kb.other _ _ (by dsimp only; omega), h.kr.other _ _ (by dsimp only; omega), h.ko.set i v, h.hB.setCell (by dsimp only; omega) _, h.st _ _ (turn_at _ _ _ _ _ (Nat.le_refl _)) h.rows, h.st⟩
theorem TM.add {w W : World} {arg cs : Array Value} {R S : World → Prop} (h : TM w W arg cs R) (r : S W) (s : Stab (w.heap.size + 1 + 1) S) : TM w W arg cs (fun W => R W ∧ S W) :=
  ⟨h.kb, h.kr, h.ko, h.hB, ⟨h.rows, r⟩, h.st.and s⟩
theorem upS_le (f : Nat → Nat) (n i : Nat) (hi : i < n) : f i ≤ upS f n := by
  have h1 := upS_mono f (i + 1) n (by omega)
  have h2 : upS f (i + 1) = upS f i + f i := rfl
  omega
def ToM (w : World) (nm : ByteArray) (ta : Option Addr) (tn tc : Nat) (tz : List Int) (ba : Option Addr) (bn bc : Nat) (bl : List Bk) (da : Option Addr) (dn dc : Nat) (dz : List Int) (bss : Int) (ra : Option Addr) (rn rc : Nat) (rz : List Int) (ia : Option Addr) (im ic : Nat) (ss : List ByteArray) (ea : Option Addr) (en ec : Nat) (es : List Ex) (e : Ending) (w' : World) : Prop :=
  ∃ g1 g2 g3 g5 g6 g7, e = .returned (.agg #[.string nm, .slice (some ⟨g1, 0, none⟩) tn tn, .slice (some ⟨g2, 0, none⟩) bn bn, .slice (some ⟨g3, 0, none⟩) dn dn, .int .i64 bss, .slice (some ⟨g5, 0, none⟩) rn rn, .slice (some ⟨g6, 0, none⟩) im im, .slice (some ⟨g7, 0, none⟩) en en]) ∧
    w.heap.size ≤ g1 ∧ g1 < g2 ∧ g2 < g3 ∧ g3 < g5 ∧ g5 < g6 ∧ g6 < g7 ∧ RowI w' g1 tz ∧ (∃ gs, gs.length = bn ∧ RowB w' g2 bn gs bl) ∧ Row8 w' g3 dz ∧ RowI w' g5 rz ∧ RowT w' g6 ss ∧ RowX w' g7 es ∧ Below w.heap.size w w'

set_option maxHeartbeats 4000000 in
theorem toModule_any (nm : ByteArray) (ta : Option Addr) (tn tc : Nat) (tz : List Int) (ba : Option Addr) (bn bc : Nat) (bl : List Bk) (da : Option Addr) (dn dc : Nat) (dz : List Int) (bss : Int) (ra : Option Addr) (rn rc : Nat) (rz : List Int) (ia : Option Addr) (im ic : Nat) (ss : List ByteArray) (ea : Option Addr) (en ec : Nat) (es : List Ex) (w : World) (h : MT w nm ta tn tc tz ba bn bc bl da dn dc dz bss ra rn rc rz ia im ic ss ea en ec es) (hs : mdSize nm tn bn bl dn rn im ss en es ≤ 1048576) :
    Calls Try.prog 25 #[.agg #[.string nm, .slice ta tn tc, .slice ba bn bc, .slice da dn dc, .int .i64 bss, .slice ra rn rc, .slice ia im ic, .slice ea en ec]] w (ToM w nm ta tn tc tz ba bn bc bl da dn dc dz bss ra rn rc rz ia im ic ss ea en ec es) := by
  have HSB := hide (show ∀ i, i < bn → (bl.getD i zB).2.1 ≤ 1048576 from fun i hi => by
    have := upS_le (fun j => (bl.getD j zB).2.1) bn i hi
    unfold mdSize at hs
    omega)
  obtain ⟨l1, l2, l3, l4, l5, l6⟩ : tn ≤ 1048576 ∧ bn ≤ 1048576 ∧ dn ≤ 1048576 ∧ rn ≤ 1048576 ∧ im ≤ 1048576 ∧ en ≤ 1048576 := by unfold mdSize at hs; omega
  have MX := h
  clear h hs
  have M0 : TM w (((w.alloc (.cells #[.string nm, .slice ta tn tc, .slice ba bn bc, .slice da dn dc, .int .i64 bss, .slice ra rn rc, .slice ia im ic, .slice ea en ec] 51)).alloc (.cells #[.string ⟨#[]⟩, .slice none 0 0, .slice none 0 0, .slice none 0 0, .int .i64 0, .slice none 0 0, .slice none 0 0, .slice none 0 0] 56)).alloc (.cells #[.string nm, .slice none 0 0, .slice none 0 0, .slice none 0 0, .int .i64 0, .slice none 0 0, .slice none 0 0, .slice none 0 0] 56)) #[.string nm, .slice ta tn tc, .slice ba bn bc, .slice da dn dc, .int .i64 bss, .slice ra rn rc, .slice ia im ic, .slice ea en ec] #[.string nm, .slice none 0 0, .slice none 0 0, .slice none 0 0, .int .i64 0, .slice none 0 0, .slice none 0 0, .slice none 0 0] (fun _ => True) :=
    ⟨((Blk.new w _ _).alloc _).alloc _, by have := (Blk.new (w.alloc (.cells #[.string nm, .slice ta tn tc, .slice ba bn bc, .slice da dn dc, .int .i64 bss, .slice ra rn rc, .slice ia im ic, .slice ea en ec] 51)) #[.string ⟨#[]⟩, .slice none 0 0, .slice none 0 0, .slice none 0 0, .int .i64 0, .slice none 0 0, .slice none 0 0, .slice none 0 0] 56).alloc (.cells #[.string nm, .slice none 0 0, .slice none 0 0, .slice none 0 0, .int .i64 0, .slice none 0 0, .slice none 0 0, .slice none 0 0] 56); simpa using this, by have := Blk.new ((w.alloc (.cells #[.string nm, .slice ta tn tc, .slice ba bn bc, .slice da dn dc, .int .i64 bss, .slice ra rn rc, .slice ia im ic, .slice ea en ec] 51)).alloc (.cells #[.string ⟨#[]⟩, .slice none 0 0, .slice none 0 0, .slice none 0 0, .int .i64 0, .slice none 0 0, .slice none 0 0, .slice none 0 0] 56)) #[.string nm, .slice none 0 0, .slice none 0 0, .slice none 0 0, .int .i64 0, .slice none 0 0, .slice none 0 0, .slice none 0 0] 56; simpa using this,
      (((Below.refl _ _).alloc (Nat.le_refl _) _).alloc (by simp) _).alloc (by simp; omega) _, trivial, fun _ _ _ _ => trivial⟩
  go_enter Try.func25, Try.ntmps25
  go_wp2_with fail
  have hB := M0.hB
  refine (toIntS_any ta tn tc tz _ (MX.t.below hB) (by omega)).mono ?_
  rintro e w1 ⟨rfl, hr, hb⟩
  have M1 := (M0.below hb).add (S := fun W => RowI W _ tz) hr (stab_i (by have := M0.ko.lt; simp at this ⊢ <;> omega))
  have z1 := hb.size
  have y1 : w.heap.size + 1 + 1 + 1 < w1.heap.size := by first | (have := hr.lt; simpa using this) | (obtain ⟨gs, _, ⟨cur, hk, _⟩, _⟩ := hr; have := hk.lt; simpa using this)
  simp only [World.size_alloc, size_setCell] at M1 z1
  clear hb hr hB M0
  obtain ⟨q0, q1, q2, q3, q4, q5, q6, q7⟩ := M1.kb.eight
  obtain ⟨o0, o1, o2, o3, o4, o5, o6, o7⟩ := M1.ko.eight
  have ofz := M1.ko.frozen
  have nlt := M1.ko.lt
  go_wp2_with fail
  clear q0 q1 q2 q3 q4 q5 q6 q7 o0 o1 o2 o3 o4 o5 o6 o7 ofz nlt
  replace M1 := M1.set 1 (.slice (some ⟨w.heap.size + 1 + 1 + 1, 0, none⟩) tn tn)
  simp only [List.setIfInBounds_toArray, List.set_cons_zero, List.set_cons_succ] at M1
  have hB := M1.hB
  refine (toIntSS_any ba bn bc bl _ (MX.b.below hB) (by omega) HSB.out).mono ?_
  rintro e w2 ⟨rfl, hr, hb⟩
  have M2 := (M1.below hb).add (S := fun W => ∃ gs, gs.length = bn ∧ RowB W _ bn gs bl) hr (stab_b (by have := M1.ko.lt; simp only [size_setCell] at this ⊢; omega))
  have z2 := hb.size
  have y2 : w1.heap.size < w2.heap.size := by first | (have := hr.lt; simpa using this) | (obtain ⟨gs, _, ⟨cur, hk, _⟩, _⟩ := hr; have := hk.lt; simpa using this)
  simp only [World.size_alloc, size_setCell] at M2 z2
  clear hb hr hB M1
  obtain ⟨q0, q1, q2, q3, q4, q5, q6, q7⟩ := M2.kb.eight
  obtain ⟨o0, o1, o2, o3, o4, o5, o6, o7⟩ := M2.ko.eight
  have ofz := M2.ko.frozen
  have nlt := M2.ko.lt
  go_wp2_with fail
  clear q0 q1 q2 q3 q4 q5 q6 q7 o0 o1 o2 o3 o4 o5 o6 o7 ofz nlt
  replace M2 := M2.set 2 (.slice (some ⟨w1.heap.size, 0, none⟩) bn bn)
  simp only [List.setIfInBounds_toArray, List.set_cons_zero, List.set_cons_succ] at M2
  have hB := M2.hB
  refine (toByteS_any da dn dc dz _ (MX.d.below hB) (by omega)).mono ?_
  rintro e w3 ⟨rfl, hr, hb⟩
  have M3 := (M2.below hb).add (S := fun W => Row8 W _ dz) hr (stab_8 (by have := M2.ko.lt; simp only [size_setCell] at this ⊢; omega))
  have z3 := hb.size
  have y3 : w2.heap.size < w3.heap.size := by first | (have := hr.lt; simpa using this) | (obtain ⟨gs, _, ⟨cur, hk, _⟩, _⟩ := hr; have := hk.lt; simpa using this)
  simp only [World.size_alloc, size_setCell] at M3 z3
  clear hb hr hB M2
  obtain ⟨q0, q1, q2, q3, q4, q5, q6, q7⟩ := M3.kb.eight
  obtain ⟨o0, o1, o2, o3, o4, o5, o6, o7⟩ := M3.ko.eight
  have ofz := M3.ko.frozen
  have nlt := M3.ko.lt
  go_wp2_with fail
  clear q0 q1 q2 q3 q4 q5 q6 q7 o0 o1 o2 o3 o4 o5 o6 o7 ofz nlt
  replace M3 := M3.set 3 (.slice (some ⟨w2.heap.size, 0, none⟩) dn dn)
  replace M3 := M3.set 4 (.int .i64 bss)
  simp only [List.setIfInBounds_toArray, List.set_cons_zero, List.set_cons_succ] at M3
  have hB := M3.hB
  refine (toIntS_any ra rn rc rz _ (MX.r.below hB) (by omega)).mono ?_
  rintro e w4 ⟨rfl, hr, hb⟩
  have M4 := (M3.below hb).add (S := fun W => RowI W _ rz) hr (stab_i (by have := M3.ko.lt; simp only [size_setCell] at this ⊢; omega))
  have z4 := hb.size
  have y4 : w3.heap.size < w4.heap.size := by first | (have := hr.lt; simpa using this) | (obtain ⟨gs, _, ⟨cur, hk, _⟩, _⟩ := hr; have := hk.lt; simpa using this)
  simp only [World.size_alloc, size_setCell] at M4 z4
  clear hb hr hB M3
  obtain ⟨q0, q1, q2, q3, q4, q5, q6, q7⟩ := M4.kb.eight
  obtain ⟨o0, o1, o2, o3, o4, o5, o6, o7⟩ := M4.ko.eight
  have ofz := M4.ko.frozen
  have nlt := M4.ko.lt
  go_wp2_with fail
  clear q0 q1 q2 q3 q4 q5 q6 q7 o0 o1 o2 o3 o4 o5 o6 o7 ofz nlt
  replace M4 := M4.set 5 (.slice (some ⟨w3.heap.size, 0, none⟩) rn rn)
  simp only [List.setIfInBounds_toArray, List.set_cons_zero, List.set_cons_succ] at M4
  have hB := M4.hB
  refine (toStringS_any ia im ic ss _ (MX.i.below hB) (by omega)).mono ?_
  rintro e w5 ⟨rfl, hr, hb⟩
  have M5 := (M4.below hb).add (S := fun W => RowT W _ ss) hr (stab_t (by have := M4.ko.lt; simp only [size_setCell] at this ⊢; omega))
  have z5 := hb.size
  have y5 : w4.heap.size < w5.heap.size := by first | (have := hr.lt; simpa using this) | (obtain ⟨gs, _, ⟨cur, hk, _⟩, _⟩ := hr; have := hk.lt; simpa using this)
  simp only [World.size_alloc, size_setCell] at M5 z5
  clear hb hr hB M4
  obtain ⟨q0, q1, q2, q3, q4, q5, q6, q7⟩ := M5.kb.eight
  obtain ⟨o0, o1, o2, o3, o4, o5, o6, o7⟩ := M5.ko.eight
  have ofz := M5.ko.frozen
  have nlt := M5.ko.lt
  go_wp2_with fail
  clear q0 q1 q2 q3 q4 q5 q6 q7 o0 o1 o2 o3 o4 o5 o6 o7 ofz nlt
  replace M5 := M5.set 6 (.slice (some ⟨w4.heap.size, 0, none⟩) im im)
  simp only [List.setIfInBounds_toArray, List.set_cons_zero, List.set_cons_succ] at M5
  have hB := M5.hB
  refine (toExportS_any ea en ec es _ (MX.e.below hB) (by omega)).mono ?_
  rintro e w6 ⟨rfl, hr, hb⟩
  have M6 := (M5.below hb).add (S := fun W => RowX W _ es) hr (stab_x (by have := M5.ko.lt; simp only [size_setCell] at this ⊢; omega))
  have z6 := hb.size
  have y6 : w5.heap.size < w6.heap.size := by first | (have := hr.lt; simpa using this) | (obtain ⟨gs, _, ⟨cur, hk, _⟩, _⟩ := hr; have := hk.lt; simpa using this)
  simp only [World.size_alloc, size_setCell] at M6 z6
  clear hb hr hB M5
  have M7 := M6.set 7 (.slice (some ⟨w5.heap.size, 0, none⟩) en en)
  simp only [List.setIfInBounds_toArray, List.set_cons_zero, List.set_cons_succ] at M7
  obtain ⟨WF, hWF⟩ : ∃ X, X = (((((((((w6.setCell ⟨w.heap.size + 1 + 1, 7, none⟩ (.slice (some ⟨w5.heap.size, 0, none⟩) en en)).setCell ⟨w.heap.size + 1, 0, none⟩ (.string nm)).setCell ⟨w.heap.size + 1, 1, none⟩ (.slice (some ⟨w.heap.size + 1 + 1 + 1, 0, none⟩) tn tn)).setCell ⟨w.heap.size + 1, 2, none⟩ (.slice (some ⟨w1.heap.size, 0, none⟩) bn bn)).setCell ⟨w.heap.size + 1, 3, none⟩ (.slice (some ⟨w2.heap.size, 0, none⟩) dn dn)).setCell ⟨w.heap.size + 1, 4, none⟩ (.int .i64 bss)).setCell ⟨w.heap.size + 1, 5, none⟩ (.slice (some ⟨w3.heap.size, 0, none⟩) rn rn)).setCell ⟨w.heap.size + 1, 6, none⟩ (.slice (some ⟨w4.heap.size, 0, none⟩) im im)).setCell ⟨w.heap.size + 1, 7, none⟩ (.slice (some ⟨w5.heap.size, 0, none⟩) en en)) := ⟨_, rfl⟩
  have kF : Blk WF (w.heap.size + 1) #[.string nm, .slice (some ⟨w.heap.size + 1 + 1 + 1, 0, none⟩) tn tn, .slice (some ⟨w1.heap.size, 0, none⟩) bn bn, .slice (some ⟨w2.heap.size, 0, none⟩) dn dn, .int .i64 bss, .slice (some ⟨w3.heap.size, 0, none⟩) rn rn, .slice (some ⟨w4.heap.size, 0, none⟩) im im, .slice (some ⟨w5.heap.size, 0, none⟩) en en] 56 := by
    have := ((((((((M7.kr.set 0 (.string nm)).set 1 (.slice (some ⟨w.heap.size + 1 + 1 + 1, 0, none⟩) tn tn)).set 2 (.slice (some ⟨w1.heap.size, 0, none⟩) bn bn)).set 3 (.slice (some ⟨w2.heap.size, 0, none⟩) dn dn)).set 4 (.int .i64 bss)).set 5 (.slice (some ⟨w3.heap.size, 0, none⟩) rn rn)).set 6 (.slice (some ⟨w4.heap.size, 0, none⟩) im im)).set 7 (.slice (some ⟨w5.heap.size, 0, none⟩) en en))
    simp only [List.setIfInBounds_toArray, List.set_cons_zero, List.set_cons_succ] at this
    rw [hWF]
    exact this
  have tF : Turn (fun j => j ≤ w.heap.size + 1 + 1) (w6.setCell ⟨w.heap.size + 1 + 1, 7, none⟩ (.slice (some ⟨w5.heap.size, 0, none⟩) en en)) WF := by
    rw [hWF]
    exact ((((((((Turn.refl (fun j => j ≤ w.heap.size + 1 + 1) (w6.setCell ⟨w.heap.size + 1 + 1, 7, none⟩ (.slice (some ⟨w5.heap.size, 0, none⟩) en en))).trans (turn_at _ _ (w.heap.size + 1) 0 (.string nm) (by omega))).trans (turn_at _ _ (w.heap.size + 1) 1 (.slice (some ⟨w.heap.size + 1 + 1 + 1, 0, none⟩) tn tn) (by omega))).trans (turn_at _ _ (w.heap.size + 1) 2 (.slice (some ⟨w1.heap.size, 0, none⟩) bn bn) (by omega))).trans (turn_at _ _ (w.heap.size + 1) 3 (.slice (some ⟨w2.heap.size, 0, none⟩) dn dn) (by omega))).trans (turn_at _ _ (w.heap.size + 1) 4 (.int .i64 bss) (by omega))).trans (turn_at _ _ (w.heap.size + 1) 5 (.slice (some ⟨w3.heap.size, 0, none⟩) rn rn) (by omega))).trans (turn_at _ _ (w.heap.size + 1) 6 (.slice (some ⟨w4.heap.size, 0, none⟩) im im) (by omega))).trans (turn_at _ _ (w.heap.size + 1) 7 (.slice (some ⟨w5.heap.size, 0, none⟩) en en) (by omega))
  have rF := M7.st _ _ tF M7.rows
  have bF : Below w.heap.size w WF := by
    rw [hWF]
    exact ((((((((M7.hB.setCell (p := ⟨w.heap.size + 1, 0, none⟩) (by dsimp only; omega) (.string nm)).setCell (p := ⟨w.heap.size + 1, 1, none⟩) (by dsimp only; omega) (.slice (some ⟨w.heap.size + 1 + 1 + 1, 0, none⟩) tn tn)).setCell (p := ⟨w.heap.size + 1, 2, none⟩) (by dsimp only; omega) (.slice (some ⟨w1.heap.size, 0, none⟩) bn bn)).setCell (p := ⟨w.heap.size + 1, 3, none⟩) (by dsimp only; omega) (.slice (some ⟨w2.heap.size, 0, none⟩) dn dn)).setCell (p := ⟨w.heap.size + 1, 4, none⟩) (by dsimp only; omega) (.int .i64 bss)).setCell (p := ⟨w.heap.size + 1, 5, none⟩) (by dsimp only; omega) (.slice (some ⟨w3.heap.size, 0, none⟩) rn rn)).setCell (p := ⟨w.heap.size + 1, 6, none⟩) (by dsimp only; omega) (.slice (some ⟨w4.heap.size, 0, none⟩) im im)).setCell (p := ⟨w.heap.size + 1, 7, none⟩) (by dsimp only; omega) (.slice (some ⟨w5.heap.size, 0, none⟩) en en))
  have HF := hide hWF
  have HRF := hide (And.intro rF bF)
  clear hWF tF rF bF M7
  obtain ⟨o0, o1, o2, o3, o4, o5, o6, o7⟩ := M6.ko.eight
  have ofz := M6.ko.frozen
  obtain ⟨p0, p1, p2, p3, p4, p5, p6, p7⟩ := M6.kr.eight
  have pfz := M6.kr.frozen
  obtain ⟨s0, s1, s2, s3, s4, s5, s6, s7⟩ := kF.eight
  have nlt := M6.ko.lt
  go_wp2_with fail
  rw [← HF.out]
  clear o0 o1 o2 o3 o4 o5 o6 o7 ofz p0 p1 p2 p3 p4 p5 p6 p7 pfz
  refine bodyPost_ret (v := .agg #[.string nm, .slice (some ⟨w.heap.size + 1 + 1 + 1, 0, none⟩) tn tn, .slice (some ⟨w1.heap.size, 0, none⟩) bn bn, .slice (some ⟨w2.heap.size, 0, none⟩) dn dn, .int .i64 bss, .slice (some ⟨w3.heap.size, 0, none⟩) rn rn, .slice (some ⟨w4.heap.size, 0, none⟩) im im, .slice (some ⟨w5.heap.size, 0, none⟩) en en]) (by simp [results, Try.results25, go_sem, s0, s1, s2, s3, s4, s5, s6, s7]) rfl ?_
  obtain ⟨⟨⟨⟨⟨⟨⟨_, r1⟩, r2⟩, r3⟩, r5⟩, r6⟩, r7⟩, hB⟩ := HRF.out
  exact ⟨w.heap.size + 1 + 1 + 1, w1.heap.size, w2.heap.size, w3.heap.size, w4.heap.size, w5.heap.size, rfl, by omega, by omega, by omega, by omega, by omega, by omega, r1, r2, r3, r5, r6, r7, hB⟩
end Go.Proofs.Ytngdgogjlpjjpac
