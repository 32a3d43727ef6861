import Derived.Test.YtngdgogjlpjjpaeGreatP03
import Derived.Test.YtngdgogjlpjjpaeGreatP04
import Derived.Test.YtngdgogjlpjjpaeGreatP06
import Derived.Test.YtngdgogjlpjjpaeGreatP07
namespace Go.Proofs.YtngdgogjlpjjpaeGreat
open Go.RowKit
set_option linter.unusedVariables false
set_option linter.unusedSimpArgs false
set_option maxRecDepth 100000
theorem turn_at (c : Nat) (w : World) (r i : Nat) (v : Value) (h : r ≤ c) : Turn (fun j => j ≤ c) w (w.setCell ⟨r, i, none⟩ v) := ⟨rfl, rfl, rfl, by rw [size_setCell]; exact Nat.le_refl _, fun j hj hn => heap_setCell_other _ _ _ _ (fun e => hn (by dsimp only at e; omega))⟩
def Stab (c : Nat) (R : World → Prop) : Prop := ∀ W W', Turn (fun j => j ≤ c) W W' → R W → R W'
theorem stab_i {c g : Nat} {zs : List Int} (h : c < g) : Stab c (fun W => RowI W g zs) := fun W W' t r => turn_blk t r (by show ¬ g ≤ c; omega)
theorem stab_8 {c g : Nat} {zs : List Int} (h : c < g) : Stab c (fun W => Row8 W g zs) := fun W W' t r => turn_blk t r (by show ¬ g ≤ c; omega)
theorem stab_t {c g : Nat} {zs : List ByteArray} (h : c < g) : Stab c (fun W => RowT W g zs) := fun W W' t r => turn_blk t r (by show ¬ g ≤ c; omega)
theorem stab_b {c g n : Nat} {bl : List Bk} (h : c < g) : Stab c (fun W => ∃ gs, gs.length = n ∧ RowB W g n gs bl) := fun W W' t r => by
  obtain ⟨gs, h1, ⟨cur, h2, h3⟩, h4, h5⟩ := r
  exact ⟨gs, h1, ⟨cur, turn_blk t h2 (by show ¬ g ≤ c; omega), h3⟩, fun i hi => ⟨turn_blk t (h4 i hi).1 (by show ¬ gs.getD i 0 ≤ c; have := (h4 i hi).2; omega), (h4 i hi).2⟩, h5⟩
theorem stab_x {c g : Nat} {es : List Ex} (h : c < g) : Stab c (fun W => RowX W g es) := fun W W' t r => by
  obtain ⟨⟨cur, h2, h3⟩, h4⟩ := r
  have e : W'.heap[g]? = W.heap[g]? := t.block g h2.lt (by show ¬ g ≤ c; omega)
  have key : ∀ o, W'.cell? ⟨g, o, none⟩ = W.cell? ⟨g, o, none⟩ := fun o => World.cell?_of_block (w := W) e
  refine ⟨⟨cur, turn_blk t h2 (by show ¬ g ≤ c; omega), h3⟩, fun i hi => ?_⟩
  obtain ⟨y1, y2, y3⟩ := h4 i hi
  exact ⟨(key _).trans y1, (key _).trans y2, (key _).trans y3⟩
theorem Stab.and {c : Nat} {R S : World → Prop} (h : Stab c R) (k : Stab c S) : Stab c (fun W => R W ∧ S W) := fun W W' t r => ⟨h W W' t r.1, k W W' t r.2⟩
structure TM (w W : World) (arg cs : Array Value) (R : World → Prop) : Prop where
  kb : Blk W w.heap.size arg 97
  kr : Blk W (w.heap.size + 1) #[.string ⟨#[]⟩, .slice none 0 0, .slice none 0 0, .slice none 0 0, .int .i64 0, .slice none 0 0, .slice none 0 0, .slice none 0 0] 104
  ko : Blk W (w.heap.size + 1 + 1) cs 104
  hB : Below w.heap.size w W
  rows : R W
  st : Stab (w.heap.size + 1 + 1) R
theorem TM.below {w W W' : World} {arg cs : Array Value} {R : World → Prop} (h : TM w W arg cs R) (hb : Below W.heap.size W W') : TM w W' arg cs R :=
  ⟨h.kb.below hb, h.kr.below hb, h.ko.below hb, h.hB.trans (hb.mono h.hB.size), h.st _ _ (turn_below hb) h.rows, h.st⟩
theorem TM.set {w W : World} {arg cs : Array Value} {R : World → Prop} (h : TM w W arg cs R) (i : Nat) (v : Value) : TM w (W.setCell ⟨w.heap.size + 1 + 1, i, none⟩ v) arg (cs.setIfInBounds i v) R :=
  ⟨h.kb.other _ _ (by dsimp only; omega), h.kr.other _ _ (by dsimp only; omega), h.ko.set i v, h.hB.setCell (by dsimp only; omega) _, h.st _ _ (turn_at _ _ _ _ _ (Nat.le_refl _)) h.rows, h.st⟩
theorem TM.add {w W : World} {arg cs : Array Value} {R S : World → Prop} (h : TM w W arg cs R) (r : S W) (s : Stab (w.heap.size + 1 + 1) S) : TM w W arg cs (fun W => R W ∧ S W) :=
  ⟨h.kb, h.kr, h.ko, h.hB, ⟨h.rows, r⟩, h.st.and s⟩
theorem upS_le (f : Nat → Nat) (n i : Nat) (hi : i < n) : f i ≤ upS f n := by
  have h1 := upS_mono f (i + 1) n (by omega)
  have h2 : upS f (i + 1) = upS f i + f i := rfl
  omega
def ToM (w : World) (nm : ByteArray) (ta : Option Addr) (tn tc : Nat) (tz : List Int) (ba : Option Addr) (bn bc : Nat) (bl : List Bk) (da : Option Addr) (dn dc : Nat) (dz : List Int) (bss : Int) (ra : Option Addr) (rn rc : Nat) (rz : List Int) (ia : Option Addr) (im ic : Nat) (ss : List ByteArray) (ea : Option Addr) (en ec : Nat) (es : List Ex) (e : Ending) (w' : World) : Prop :=
  ∃ g1 g2 g3 g5 g6 g7, e = .returned (.agg #[.string nm, .slice (some ⟨g1, 0, none⟩) tn tn, .slice (some ⟨g2, 0, none⟩) bn bn, .slice (some ⟨g3, 0, none⟩) dn dn, .int .i64 bss, .slice (some ⟨g5, 0, none⟩) rn rn, .slice (some ⟨g6, 0, none⟩) im im, .slice (some ⟨g7, 0, none⟩) en en]) ∧
    w.heap.size ≤ g1 ∧ g1 < g2 ∧ g2 < g3 ∧ g3 < g5 ∧ g5 < g6 ∧ g6 < g7 ∧ RowI w' g1 tz ∧ (∃ gs, gs.length = bn ∧ RowB w' g2 bn gs bl) ∧ Row8 w' g3 dz ∧ RowI w' g5 rz ∧ RowT w' g6 ss ∧ RowX w' g7 es ∧ Below w.heap.size w w'
set_option maxHeartbeats 4000000 in
theorem toModule_any (nm : ByteArray) (ta : Option Addr) (tn tc : Nat) (tz : List Int) (ba : Option Addr) (bn bc : Nat) (bl : List Bk) (da : Option Addr) (dn dc : Nat) (dz : List Int) (bss : Int) (ra : Option Addr) (rn rc : Nat) (rz : List Int) (ia : Option Addr) (im ic : Nat) (ss : List ByteArray) (ea : Option Addr) (en ec : Nat) (es : List Ex) (w : World) (h : MT w nm ta tn tc tz ba bn bc bl da dn dc dz bss ra rn rc rz ia im ic ss ea en ec es) (hs : mdSize nm tn bn bl dn rn im ss en es ≤ 1048576) :
    Calls Tryz.prog 52 #[.agg #[.string nm, .slice ta tn tc, .slice ba bn bc, .slice da dn dc, .int .i64 bss, .slice ra rn rc, .slice ia im ic, .slice ea en ec]] w (ToM w nm ta tn tc tz ba bn bc bl da dn dc dz bss ra rn rc rz ia im ic ss ea en ec es) := by
  have HSB := hide (show ∀ i, i < bn → (bl.getD i zB).2.1 ≤ 1048576 from fun i hi => by
    have := upS_le (fun j => (bl.getD j zB).2.1) bn i hi
    unfold mdSize at hs
    omega)
  obtain ⟨l1, l2, l3, l4, l5, l6⟩ : tn ≤ 1048576 ∧ bn ≤ 1048576 ∧ dn ≤ 1048576 ∧ rn ≤ 1048576 ∧ im ≤ 1048576 ∧ en ≤ 1048576 := by unfold mdSize at hs; omega
  have MX := h
  clear h hs
  have M0 : TM w (((w.alloc (.cells #[.string nm, .slice ta tn tc, .slice ba bn bc, .slice da dn dc, .int .i64 bss, .slice ra rn rc, .slice ia im ic, .slice ea en ec] 97)).alloc (.cells #[.string ⟨#[]⟩, .slice none 0 0, .slice none 0 0, .slice none 0 0, .int .i64 0, .slice none 0 0, .slice none 0 0, .slice none 0 0] 104)).alloc (.cells #[.string nm, .slice none 0 0, .slice none 0 0, .slice none 0 0, .int .i64 0, .slice none 0 0, .slice none 0 0, .slice none 0 0] 104)) #[.string nm, .slice ta tn tc, .slice ba bn bc, .slice da dn dc, .int .i64 bss, .slice ra rn rc, .slice ia im ic, .slice ea en ec] #[.string nm, .slice none 0 0, .slice none 0 0, .slice none 0 0, .int .i64 0, .slice none 0 0, .slice none 0 0, .slice none 0 0] (fun _ => True) :=
    ⟨((Blk.new w _ _).alloc _).alloc _, by have := (Blk.new (w.alloc (.cells #[.string nm, .slice ta tn tc, .slice ba bn bc, .slice da dn dc, .int .i64 bss, .slice ra rn rc, .slice ia im ic, .slice ea en ec] 97)) #[.string ⟨#[]⟩, .slice none 0 0, .slice none 0 0, .slice none 0 0, .int .i64 0, .slice none 0 0, .slice none 0 0, .slice none 0 0] 104).alloc (.cells #[.string nm, .slice none 0 0, .slice none 0 0, .slice none 0 0, .int .i64 0, .slice none 0 0, .slice none 0 0, .slice none 0 0] 104); simpa using this, by have := Blk.new ((w.alloc (.cells #[.string nm, .slice ta tn tc, .slice ba bn bc, .slice da dn dc, .int .i64 bss, .slice ra rn rc, .slice ia im ic, .slice ea en ec] 97)).alloc (.cells #[.string ⟨#[]⟩, .slice none 0 0, .slice none 0 0, .slice none 0 0, .int .i64 0, .slice none 0 0, .slice none 0 0, .slice none 0 0] 104)) #[.string nm, .slice none 0 0, .slice none 0 0, .slice none 0 0, .int .i64 0, .slice none 0 0, .slice none 0 0, .slice none 0 0] 104; simpa using this,
      (((Below.refl _ _).alloc (Nat.le_refl _) _).alloc (by simp) _).alloc (by simp; omega) _, trivial, fun _ _ _ _ => trivial⟩
  go_enter Tryz.func52, Tryz.ntmps52
  go_wp2_with fail
  have hB := M0.hB
  refine (toIntS_any ta tn tc tz _ (MX.t.below hB) (by omega)).mono ?_
  rintro e w1 ⟨rfl, hr, hb⟩
  have M1 := (M0.below hb).add (S := fun W => RowI W _ tz) hr (stab_i (by have := M0.ko.lt; simp at this ⊢ <;> omega))
  have z1 := hb.size
  have y1 : w.heap.size + 1 + 1 + 1 < w1.heap.size := by first | (have := hr.lt; simpa using this) | (obtain ⟨gs, _, ⟨cur, hk, _⟩, _⟩ := hr; have := hk.lt; simpa using this)
  simp only [World.size_alloc, size_setCell] at M1 z1
  clear hb hr hB M0
  obtain ⟨q0, q1, q2, q3, q4, q5, q6, q7⟩ := M1.kb.eight
  obtain ⟨o0, o1, o2, o3, o4, o5, o6, o7⟩ := M1.ko.eight
  have ofz := M1.ko.frozen
  have nlt := M1.ko.lt
  go_wp2_with fail
  clear q0 q1 q2 q3 q4 q5 q6 q7 o0 o1 o2 o3 o4 o5 o6 o7 ofz nlt
  replace M1 := M1.set 1 (.slice (some ⟨w.heap.size + 1 + 1 + 1, 0, none⟩) tn tn)
  simp only [List.setIfInBounds_toArray, List.set_cons_zero, List.set_cons_succ] at M1
  have hB := M1.hB
  refine (toIntSS_any ba bn bc bl _ (MX.b.below hB) (by omega) HSB.out).mono ?_
  rintro e w2 ⟨rfl, hr, hb⟩
  have M2 := (M1.below hb).add (S := fun W => ∃ gs, gs.length = bn ∧ RowB W _ bn gs bl) hr (stab_b (by have := M1.ko.lt; simp only [size_setCell] at this ⊢; omega))
  have z2 := hb.size
  have y2 : w1.heap.size < w2.heap.size := by first | (have := hr.lt; simpa using this) | (obtain ⟨gs, _, ⟨cur, hk, _⟩, _⟩ := hr; have := hk.lt; simpa using this)
  simp only [World.size_alloc, size_setCell] at M2 z2
  clear hb hr hB M1
  obtain ⟨q0, q1, q2, q3, q4, q5, q6, q7⟩ := M2.kb.eight
  obtain ⟨o0, o1, o2, o3, o4, o5, o6, o7⟩ := M2.ko.eight
  have ofz := M2.ko.frozen
  have nlt := M2.ko.lt
  go_wp2_with fail
  clear q0 q1 q2 q3 q4 q5 q6 q7 o0 o1 o2 o3 o4 o5 o6 o7 ofz nlt
  replace M2 := M2.set 2 (.slice (some ⟨w1.heap.size, 0, none⟩) bn bn)
  simp only [List.setIfInBounds_toArray, List.set_cons_zero, List.set_cons_succ] at M2
  have hB := M2.hB
  refine (toByteS_any da dn dc dz _ (MX.d.below hB) (by omega)).mono ?_
  rintro e w3 ⟨rfl, hr, hb⟩
  have M3 := (M2.below hb).add (S := fun W => Row8 W _ dz) hr (stab_8 (by have := M2.ko.lt; simp only [size_setCell] at this ⊢; omega))
  have z3 := hb.size
  have y3 : w2.heap.size < w3.heap.size := by first | (have := hr.lt; simpa using this) | (obtain ⟨gs, _, ⟨cur, hk, _⟩, _⟩ := hr; have := hk.lt; simpa using this)
  simp only [World.size_alloc, size_setCell] at M3 z3
  clear hb hr hB M2
  obtain ⟨q0, q1, q2, q3, q4, q5, q6, q7⟩ := M3.kb.eight
  obtain ⟨o0, o1, o2, o3, o4, o5, o6, o7⟩ := M3.ko.eight
  have ofz := M3.ko.frozen
  have nlt := M3.ko.lt
  go_wp2_with fail
  clear q0 q1 q2 q3 q4 q5 q6 q7 o0 o1 o2 o3 o4 o5 o6 o7 ofz nlt
  replace M3 := M3.set 3 (.slice (some ⟨w2.heap.size, 0, none⟩) dn dn)
  replace M3 := M3.set 4 (.int .i64 bss)
  simp only [List.setIfInBounds_toArray, List.set_cons_zero, List.set_cons_succ] at M3
  have hB := M3.hB
  refine (toIntS_any ra rn rc rz _ (MX.r.below hB) (by omega)).mono ?_
  rintro e w4 ⟨rfl, hr, hb⟩
  have M4 := (M3.below hb).add (S := fun W => RowI W _ rz) hr (stab_i (by have := M3.ko.lt; simp only [size_setCell] at this ⊢; omega))
  have z4 := hb.size
  have y4 : w3.heap.size < w4.heap.size := by first | (have := hr.lt; simpa using this) | (obtain ⟨gs, _, ⟨cur, hk, _⟩, _⟩ := hr; have := hk.lt; simpa using this)
  simp only [World.size_alloc, size_setCell] at M4 z4
  clear hb hr hB M3
  obtain ⟨q0, q1, q2, q3, q4, q5, q6, q7⟩ := M4.kb.eight
  obtain ⟨o0, o1, o2, o3, o4, o5, o6, o7⟩ := M4.ko.eight
  have ofz := M4.ko.frozen
  have nlt := M4.ko.lt
  go_wp2_with fail
  clear q0 q1 q2 q3 q4 q5 q6 q7 o0 o1 o2 o3 o4 o5 o6 o7 ofz nlt
  replace M4 := M4.set 5 (.slice (some ⟨w3.heap.size, 0, none⟩) rn rn)
  simp only [List.setIfInBounds_toArray, List.set_cons_zero, List.set_cons_succ] at M4
  have hB := M4.hB
  refine (toStringS_any ia im ic ss _ (MX.i.below hB) (by omega)).mono ?_
  rintro e w5 ⟨rfl, hr, hb⟩
  have M5 := (M4.below hb).add (S := fun W => RowT W _ ss) hr (stab_t (by have := M4.ko.lt; simp only [size_setCell] at this ⊢; omega))
  have z5 := hb.size
  have y5 : w4.heap.size < w5.heap.size := by first | (have := hr.lt; simpa using this) | (obtain ⟨gs, _, ⟨cur, hk, _⟩, _⟩ := hr; have := hk.lt; simpa using this)
  simp only [World.size_alloc, size_setCell] at M5 z5
  clear hb hr hB M4
  obtain ⟨q0, q1, q2, q3, q4, q5, q6, q7⟩ := M5.kb.eight
  obtain ⟨o0, o1, o2, o3, o4, o5, o6, o7⟩ := M5.ko.eight
  have ofz := M5.ko.frozen
  have nlt := M5.ko.lt
  go_wp2_with fail
  clear q0 q1 q2 q3 q4 q5 q6 q7 o0 o1 o2 o3 o4 o5 o6 o7 ofz nlt
  replace M5 := M5.set 6 (.slice (some ⟨w4.heap.size, 0, none⟩) im im)
  simp only [List.setIfInBounds_toArray, List.set_cons_zero, List.set_cons_succ] at M5
  have hB := M5.hB
  refine (toExportS_any ea en ec es _ (MX.e.below hB) (by omega)).mono ?_
  rintro e w6 ⟨rfl, hr, hb⟩
  have M6 := (M5.below hb).add (S := fun W => RowX W _ es) hr (stab_x (by have := M5.ko.lt; simp only [size_setCell] at this ⊢; omega))
  have z6 := hb.size
  have y6 : w5.heap.size < w6.heap.size := by first | (have := hr.lt; simpa using this) | (obtain ⟨gs, _, ⟨cur, hk, _⟩, _⟩ := hr; have := hk.lt; simpa using this)
  simp only [World.size_alloc, size_setCell] at M6 z6
  clear hb hr hB M5
  have M7 := M6.set 7 (.slice (some ⟨w5.heap.size, 0, none⟩) en en)
  simp only [List.setIfInBounds_toArray, List.set_cons_zero, List.set_cons_succ] at M7
  obtain ⟨WF, hWF⟩ : ∃ X, X = (((((((((w6.setCell ⟨w.heap.size + 1 + 1, 7, none⟩ (.slice (some ⟨w5.heap.size, 0, none⟩) en en)).setCell ⟨w.heap.size + 1, 0, none⟩ (.string nm)).setCell ⟨w.heap.size + 1, 1, none⟩ (.slice (some ⟨w.heap.size + 1 + 1 + 1, 0, none⟩) tn tn)).setCell ⟨w.heap.size + 1, 2, none⟩ (.slice (some ⟨w1.heap.size, 0, none⟩) bn bn)).setCell ⟨w.heap.size + 1, 3, none⟩ (.slice (some ⟨w2.heap.size, 0, none⟩) dn dn)).setCell ⟨w.heap.size + 1, 4, none⟩ (.int .i64 bss)).setCell ⟨w.heap.size + 1, 5, none⟩ (.slice (some ⟨w3.heap.size, 0, none⟩) rn rn)).setCell ⟨w.heap.size + 1, 6, none⟩ (.slice (some ⟨w4.heap.size, 0, none⟩) im im)).setCell ⟨w.heap.size + 1, 7, none⟩ (.slice (some ⟨w5.heap.size, 0, none⟩) en en)) := ⟨_, rfl⟩
  have kF : Blk WF (w.heap.size + 1) #[.string nm, .slice (some ⟨w.heap.size + 1 + 1 + 1, 0, none⟩) tn tn, .slice (some ⟨w1.heap.size, 0, none⟩) bn bn, .slice (some ⟨w2.heap.size, 0, none⟩) dn dn, .int .i64 bss, .slice (some ⟨w3.heap.size, 0, none⟩) rn rn, .slice (some ⟨w4.heap.size, 0, none⟩) im im, .slice (some ⟨w5.heap.size, 0, none⟩) en en] 104 := by
    have := ((((((((M7.kr.set 0 (.string nm)).set 1 (.slice (some ⟨w.heap.size + 1 + 1 + 1, 0, none⟩) tn tn)).set 2 (.slice (some ⟨w1.heap.size, 0, none⟩) bn bn)).set 3 (.slice (some ⟨w2.heap.size, 0, none⟩) dn dn)).set 4 (.int .i64 bss)).set 5 (.slice (some ⟨w3.heap.size, 0, none⟩) rn rn)).set 6 (.slice (some ⟨w4.heap.size, 0, none⟩) im im)).set 7 (.slice (some ⟨w5.heap.size, 0, none⟩) en en))
    simp only [List.setIfInBounds_toArray, List.set_cons_zero, List.set_cons_succ] at this
    rw [hWF]
    exact this
  have tF : Turn (fun j => j ≤ w.heap.size + 1 + 1) (w6.setCell ⟨w.heap.size + 1 + 1, 7, none⟩ (.slice (some ⟨w5.heap.size, 0, none⟩) en en)) WF := by
    rw [hWF]
    exact ((((((((Turn.refl (fun j => j ≤ w.heap.size + 1 + 1) (w6.setCell ⟨w.heap.size + 1 + 1, 7, none⟩ (.slice (some ⟨w5.heap.size, 0, none⟩) en en))).trans (turn_at _ _ (w.heap.size + 1) 0 (.string nm) (by omega))).trans (turn_at _ _ (w.heap.size + 1) 1 (.slice (some ⟨w.heap.size + 1 + 1 + 1, 0, none⟩) tn tn) (by omega))).trans (turn_at _ _ (w.heap.size + 1) 2 (.slice (some ⟨w1.heap.size, 0, none⟩) bn bn) (by omega))).trans (turn_at _ _ (w.heap.size + 1) 3 (.slice (some ⟨w2.heap.size, 0, none⟩) dn dn) (by omega))).trans (turn_at _ _ (w.heap.size + 1) 4 (.int .i64 bss) (by omega))).trans (turn_at _ _ (w.heap.size + 1) 5 (.slice (some ⟨w3.heap.size, 0, none⟩) rn rn) (by omega))).trans (turn_at _ _ (w.heap.size + 1) 6 (.slice (some ⟨w4.heap.size, 0, none⟩) im im) (by omega))).trans (turn_at _ _ (w.heap.size + 1) 7 (.slice (some ⟨w5.heap.size, 0, none⟩) en en) (by omega))
  have rF := M7.st _ _ tF M7.rows
  have bF : Below w.heap.size w WF := by
    rw [hWF]
    exact ((((((((M7.hB.setCell (p := ⟨w.heap.size + 1, 0, none⟩) (by dsimp only; omega) (.string nm)).setCell (p := ⟨w.heap.size + 1, 1, none⟩) (by dsimp only; omega) (.slice (some ⟨w.heap.size + 1 + 1 + 1, 0, none⟩) tn tn)).setCell (p := ⟨w.heap.size + 1, 2, none⟩) (by dsimp only; omega) (.slice (some ⟨w1.heap.size, 0, none⟩) bn bn)).setCell (p := ⟨w.heap.size + 1, 3, none⟩) (by dsimp only; omega) (.slice (some ⟨w2.heap.size, 0, none⟩) dn dn)).setCell (p := ⟨w.heap.size + 1, 4, none⟩) (by dsimp only; omega) (.int .i64 bss)).setCell (p := ⟨w.heap.size + 1, 5, none⟩) (by dsimp only; omega) (.slice (some ⟨w3.heap.size, 0, none⟩) rn rn)).setCell (p := ⟨w.heap.size + 1, 6, none⟩) (by dsimp only; omega) (.slice (some ⟨w4.heap.size, 0, none⟩) im im)).setCell (p := ⟨w.heap.size + 1, 7, none⟩) (by dsimp only; omega) (.slice (some ⟨w5.heap.size, 0, none⟩) en en))
  have HF := hide hWF
  have HRF := hide (And.intro rF bF)
  clear hWF tF rF bF M7
  obtain ⟨o0, o1, o2, o3, o4, o5, o6, o7⟩ := M6.ko.eight
  have ofz := M6.ko.frozen
  obtain ⟨p0, p1, p2, p3, p4, p5, p6, p7⟩ := M6.kr.eight
  have pfz := M6.kr.frozen
  obtain ⟨s0, s1, s2, s3, s4, s5, s6, s7⟩ := kF.eight
  have nlt := M6.ko.lt
  go_wp2_with fail
  rw [← HF.out]
  clear o0 o1 o2 o3 o4 o5 o6 o7 ofz p0 p1 p2 p3 p4 p5 p6 p7 pfz
  refine bodyPost_ret (v := .agg #[.string nm, .slice (some ⟨w.heap.size + 1 + 1 + 1, 0, none⟩) tn tn, .slice (some ⟨w1.heap.size, 0, none⟩) bn bn, .slice (some ⟨w2.heap.size, 0, none⟩) dn dn, .int .i64 bss, .slice (some ⟨w3.heap.size, 0, none⟩) rn rn, .slice (some ⟨w4.heap.size, 0, none⟩) im im, .slice (some ⟨w5.heap.size, 0, none⟩) en en]) (by simp [results, Tryz.results52, go_sem, s0, s1, s2, s3, s4, s5, s6, s7]) rfl ?_
  obtain ⟨⟨⟨⟨⟨⟨⟨_, r1⟩, r2⟩, r3⟩, r5⟩, r6⟩, r7⟩, hB⟩ := HRF.out
  exact ⟨w.heap.size + 1 + 1 + 1, w1.heap.size, w2.heap.size, w3.heap.size, w4.heap.size, w5.heap.size, rfl, by omega, by omega, by omega, by omega, by omega, by omega, r1, r2, r3, r5, r6, r7, hB⟩
set_option maxHeartbeats 4000000 in
theorem iModuleOk_any (nm : ByteArray) (ta : Option Addr) (tn tc : Nat) (tz : List Int) (ba : Option Addr) (bn bc : Nat) (bl : List Bk) (da : Option Addr) (dn dc : Nat) (dz : List Int) (bss : Int) (ra : Option Addr) (rn rc : Nat) (rz : List Int) (ia : Option Addr) (im ic : Nat) (ss : List ByteArray) (ea : Option Addr) (en ec : Nat) (es : List Ex) (w : World)
    (h : MD w nm ta tn tc tz ba bn bc bl da dn dc dz bss ra rn rc rz ia im ic ss ea en ec es) :
    Calls Tryz.prog 225 #[.agg #[.string nm, .slice ta tn tc, .slice ba bn bc, .slice da dn dc, .int .i64 bss, .slice ra rn rc, .slice ia im ic, .slice ea en ec]] w fun e w' => e = .returned (.int .i64 (mdo nm tn tz bn bl dn bss rn rz im ss en es)) ∧ Below w.heap.size w w' := by
  obtain ⟨W, hW⟩ : ∃ W, W = w.alloc (.cells #[.string nm, .slice ta tn tc, .slice ba bn bc, .slice da dn dc, .int .i64 bss, .slice ra rn rc, .slice ia im ic, .slice ea en ec] 104) := ⟨_, rfl⟩
  have hB0 : Below w.heap.size w W := by rw [hW]; exact (Below.refl _ _).alloc (Nat.le_refl _) _
  have kb : Blk W w.heap.size #[.string nm, .slice ta tn tc, .slice ba bn bc, .slice da dn dc, .int .i64 bss, .slice ra rn rc, .slice ia im ic, .slice ea en ec] 104 := by rw [hW]; exact Blk.new _ _ _
  obtain ⟨r, hr⟩ : ∃ r, r = mdo nm tn tz bn bl dn bss rn rz im ss en es := ⟨_, rfl⟩
  rw [← hr]
  unfold mdo at hr
  have HRR := hide hr
  clear hr
  have H0 := h.below hB0
  have hmd := h.d.2.1
  have htn := h.t.2.1
  have HN := hide (fun w => isName_any nm w h.n)
  have HCd := hide (fun w ht hb => codeOk_any nm ta tn tc tz ba bn bc bl (.slice da dn dc) (.slice ra rn rc) (.slice ia im ic) (.slice ea en ec) bss w ht hb)
  have HRl := hide (fun w h => relocsOk_any nm (.slice ta tn tc) (.slice ba bn bc) da dn dc bss ra rn rc rz (.slice ia im ic) (.slice ea en ec) w hmd h)
  have HIm := hide (fun w h => importsOk_any nm (.slice ta tn tc) (.slice ba bn bc) (.slice da dn dc) (.slice ra rn rc) (.slice ea en ec) bss ia im ic ss w h)
  have HEx := hide (fun w hb h => exportsOk_any nm ta tn tc ba bn bc bl (.slice da dn dc) (.slice ra rn rc) (.slice ia im ic) bss ea en ec es w htn hb h)
  have HU := hide (fun w => isUpTo_any bss 512 w)
  unfold maxLen at hmd
  obtain ⟨s0, s1⟩ := h.s
  clear h htn
  have HW := hide hW
  clear hW
  generalize nmo nm = a1 at *
  generalize cdo tn tz bn bl = a2 at *
  generalize rlo rn rz dn = a4 at *
  generalize imo im ss = a5 at *
  generalize exo tn bn bl en es = a6 at *
  obtain ⟨q0, q1, q2, q3, q4, q5, q6, q7⟩ := kb.eight
  go_enter Tryz.func225, Tryz.ntmps225
  go_wp2_with (first | (rw [← HW.out]) | (go_at_call 264; refine (HN.out _).mono ?_; rintro e w1 ⟨rfl, rfl⟩; cases a1))
  · have e := hide (show r = 1 from by rw [HRR.out]; simp)
    go_ret
    exact ⟨ret_int e.out.symm, hB0⟩
  · refine (HCd.out _ H0.t H0.b).mono ?_
    rintro e w2 ⟨rfl, hb2⟩
    have kb2 := kb.below hb2
    have H2 := H0.below hb2
    have hB2 := hB0.trans (hb2.mono hB0.size)
    clear hb2 kb H0 hB0 q0 q1 q2 q3 q4 q5 q6 q7
    obtain ⟨q0, q1, q2, q3, q4, q5, q6, q7⟩ := kb2.eight
    cases a2
    · have e := hide (show r = 2 from by rw [HRR.out]; simp)
      go_wp2
      go_ret
      exact ⟨ret_int e.out.symm, hB2⟩
    · by_cases c1 : 512 < dn
      · have e := hide (show r = 3 from by rw [HRR.out]; simp [c1])
        have c1' : (512 : Int) < (dn : Int) := by omega
        go_wp2
        go_ret
        exact ⟨ret_int e.out.symm, hB2⟩
      · have c1' : ¬ (512 : Int) < (dn : Int) := by omega
        by_cases c2 : 0 ≤ bss ∧ bss ≤ 512
        · have HR2 := hide (show r = if a4 = false then 4 else if a5 = false then 5 else if a6 = false then 6 else 0 from by
            rw [HRR.out]
            simp only [Bool.true_eq_false, if_false, show ¬ (512 < dn ∨ bss < 0 ∨ 512 < bss) by omega])
          clear HRR
          rw [decide_eq_true c2] at HU
          go_wp2_with (go_at_call 165; refine (HU.out _).mono ?_; rintro e w1 ⟨rfl, rfl⟩)
          refine (HRl.out _ H2.r).mono ?_
          rintro e w3 ⟨rfl, hb3⟩
          have kb3 := kb2.below hb3
          have H3 := H2.below hb3
          have hB3 := hB2.trans (hb3.mono hB2.size)
          clear hb3 kb2 H2 hB2 q0 q1 q2 q3 q4 q5 q6 q7
          obtain ⟨q0, q1, q2, q3, q4, q5, q6, q7⟩ := kb3.eight
          cases a4
          · have e := hide (show r = 4 from by rw [HR2.out]; simp)
            go_wp2
            go_ret
            exact ⟨ret_int e.out.symm, hB3⟩
          · go_wp2_with fail
            refine (HIm.out _ H3.i).mono ?_
            rintro e w4 ⟨rfl, hb4⟩
            have kb4 := kb3.below hb4
            have H4 := H3.below hb4
            have hB4 := hB3.trans (hb4.mono hB3.size)
            clear hb4 kb3 H3 hB3 q0 q1 q2 q3 q4 q5 q6 q7
            obtain ⟨q0, q1, q2, q3, q4, q5, q6, q7⟩ := kb4.eight
            cases a5
            · have e := hide (show r = 5 from by rw [HR2.out]; simp)
              go_wp2
              go_ret
              exact ⟨ret_int e.out.symm, hB4⟩
            · go_wp2_with fail
              refine (HEx.out _ H4.b H4.e).mono ?_
              rintro e w5 ⟨rfl, hb5⟩
              have hB5 := hB4.trans (hb5.mono hB4.size)
              clear hb5 H4 hB4 kb4
              cases a6
              · have e := hide (show r = 6 from by rw [HR2.out]; simp)
                go_wp2
                go_ret
                exact ⟨ret_int e.out.symm, hB5⟩
              · have e := hide (show r = 0 from by rw [HR2.out]; simp)
                go_wp2
                go_ret
                exact ⟨ret_int e.out.symm, hB5⟩
        · rw [decide_eq_false c2] at HU
          have e := hide (show r = 3 from by rw [HRR.out]; simp only [Bool.true_eq_false, if_false, show (512 < dn ∨ bss < 0 ∨ 512 < bss) by omega, if_true])
          go_wp2_with (go_at_call 165; refine (HU.out _).mono ?_; rintro e w1 ⟨rfl, rfl⟩)
          go_ret
          exact ⟨ret_int e.out.symm, hB2⟩
set_option maxHeartbeats 4000000 in
theorem eqModule_same (nm : ByteArray) (ta ta' : Option Addr) (tn tc tc' : Nat) (tz : List Int) (ba ba' : Option Addr) (bn bc bc' : Nat) (bl bl' : List Bk) (da da' : Option Addr) (dn dc dc' : Nat) (dz : List Int) (bss : Int) (ra ra' : Option Addr) (rn rc rc' : Nat) (rz : List Int) (ia ia' : Option Addr) (im ic ic' : Nat) (ss : List ByteArray) (ea ea' : Option Addr) (en ec ec' : Nat) (es : List Ex) (w : World) (h : MT w nm ta tn tc tz ba bn bc bl da dn dc dz bss ra rn rc rz ia im ic ss ea en ec es) (h' : MT w nm ta' tn tc' tz ba' bn bc' bl' da' dn dc' dz bss ra' rn rc' rz ia' im ic' ss ea' en ec' es) (hz : ∀ i, i < bn → (bl'.getD i zB).2.1 = (bl.getD i zB).2.1 ∧ (bl'.getD i zB).2.2.2 = (bl.getD i zB).2.2.2) :
    Calls Tryz.prog 58 #[.agg #[.string nm, .slice ta tn tc, .slice ba bn bc, .slice da dn dc, .int .i64 bss, .slice ra rn rc, .slice ia im ic, .slice ea en ec], .agg #[.string nm, .slice ta' tn tc', .slice ba' bn bc', .slice da' dn dc', .int .i64 bss, .slice ra' rn rc', .slice ia' im ic', .slice ea' en ec']] w fun e w' => e = .returned (.bool true) ∧ Below w.heap.size w w' := by
  have hB0 : Below w.heap.size w ((w.alloc (.cells #[.string nm, .slice ta tn tc, .slice ba bn bc, .slice da dn dc, .int .i64 bss, .slice ra rn rc, .slice ia im ic, .slice ea en ec] 104)).alloc (.cells #[.string nm, .slice ta' tn tc', .slice ba' bn bc', .slice da' dn dc', .int .i64 bss, .slice ra' rn rc', .slice ia' im ic', .slice ea' en ec'] 104)) := ((Below.refl _ _).alloc (Nat.le_refl _) _).alloc (by simp) _
  have u0 := (Blk.new w #[.string nm, .slice ta tn tc, .slice ba bn bc, .slice da dn dc, .int .i64 bss, .slice ra rn rc, .slice ia im ic, .slice ea en ec] 104).alloc (.cells #[.string nm, .slice ta' tn tc', .slice ba' bn bc', .slice da' dn dc', .int .i64 bss, .slice ra' rn rc', .slice ia' im ic', .slice ea' en ec'] 104)
  have v0 := Blk.new (w.alloc (.cells #[.string nm, .slice ta tn tc, .slice ba bn bc, .slice da dn dc, .int .i64 bss, .slice ra rn rc, .slice ia im ic, .slice ea en ec] 104)) #[.string nm, .slice ta' tn tc', .slice ba' bn bc', .slice da' dn dc', .int .i64 bss, .slice ra' rn rc', .slice ia' im ic', .slice ea' en ec'] 104
  simp only [World.size_alloc] at v0
  have hn : (nm.toList != nm.toList) = false := by simp
  have hs : (bss != bss) = false := by simp
  go_enter Tryz.func58, Tryz.ntmps58
  go_wp2_with fail
  refine (eqIntS_any ta ta' tn tc tn tc' tz tz _ (h.t.below hB0) (h'.t.below hB0)).mono ?_
  rw [decide_eq_true rfl]
  rintro e w1 ⟨rfl, hb⟩
  have hB1 := hB0.trans (hb.mono (by have := hB0.size; simp; omega))
  have u1 := u0.below hb
  have v1 := v0.below hb
  clear hb u0 v0
  obtain ⟨q0, q1, q2, q3, q4, q5, q6, q7⟩ := u1.eight
  obtain ⟨p0, p1, p2, p3, p4, p5, p6, p7⟩ := v1.eight
  go_wp2_with fail
  refine (eqIntSS_same ba ba' bn bc bc' bl bl' _ (h.b.below hB1) (h'.b.below hB1) hz).mono ?_
  rintro e w2 ⟨rfl, hb⟩
  have hB2 := hB1.trans (hb.mono (by have := hB1.size; omega))
  have u2 := u1.below hb
  have v2 := v1.below hb
  clear hb u1 v1 q0 q1 q2 q3 q4 q5 q6 q7 p0 p1 p2 p3 p4 p5 p6 p7
  obtain ⟨q0, q1, q2, q3, q4, q5, q6, q7⟩ := u2.eight
  obtain ⟨p0, p1, p2, p3, p4, p5, p6, p7⟩ := v2.eight
  go_wp2_with fail
  refine (eqByteS_any da da' dn dc dn dc' dz dz _ (h.d.below hB2) (h'.d.below hB2)).mono ?_
  rw [decide_eq_true rfl]
  rintro e w3 ⟨rfl, hb⟩
  have hB3 := hB2.trans (hb.mono (by have := hB2.size; omega))
  have u3 := u2.below hb
  have v3 := v2.below hb
  clear hb u2 v2 q0 q1 q2 q3 q4 q5 q6 q7 p0 p1 p2 p3 p4 p5 p6 p7
  obtain ⟨q0, q1, q2, q3, q4, q5, q6, q7⟩ := u3.eight
  obtain ⟨p0, p1, p2, p3, p4, p5, p6, p7⟩ := v3.eight
  go_wp2_with fail
  refine (eqIntS_any ra ra' rn rc rn rc' rz rz _ (h.r.below hB3) (h'.r.below hB3)).mono ?_
  rw [decide_eq_true rfl]
  rintro e w4 ⟨rfl, hb⟩
  have hB4 := hB3.trans (hb.mono (by have := hB3.size; omega))
  have u4 := u3.below hb
  have v4 := v3.below hb
  clear hb u3 v3 q0 q1 q2 q3 q4 q5 q6 q7 p0 p1 p2 p3 p4 p5 p6 p7
  obtain ⟨q0, q1, q2, q3, q4, q5, q6, q7⟩ := u4.eight
  obtain ⟨p0, p1, p2, p3, p4, p5, p6, p7⟩ := v4.eight
  go_wp2_with fail
  refine (eqStringS_same ia ia' im ic ic' ss _ (h.i.below hB4) (h'.i.below hB4)).mono ?_
  rintro e w5 ⟨rfl, hb⟩
  have hB5 := hB4.trans (hb.mono (by have := hB4.size; omega))
  have u5 := u4.below hb
  have v5 := v4.below hb
  clear hb u4 v4 q0 q1 q2 q3 q4 q5 q6 q7 p0 p1 p2 p3 p4 p5 p6 p7
  obtain ⟨q0, q1, q2, q3, q4, q5, q6, q7⟩ := u5.eight
  obtain ⟨p0, p1, p2, p3, p4, p5, p6, p7⟩ := v5.eight
  go_wp2_with fail
  refine (eqExportS_same ea ea' en ec ec' es _ (h.e.below hB5) (h'.e.below hB5)).mono ?_
  rintro e w6 ⟨rfl, hb⟩
  have hB6 := hB5.trans (hb.mono (by have := hB5.size; omega))
  have u6 := u5.below hb
  have v6 := v5.below hb
  clear hb u5 v5 q0 q1 q2 q3 q4 q5 q6 q7 p0 p1 p2 p3 p4 p5 p6 p7
  obtain ⟨q0, q1, q2, q3, q4, q5, q6, q7⟩ := u6.eight
  obtain ⟨p0, p1, p2, p3, p4, p5, p6, p7⟩ := v6.eight
  go_wp2
  go_ret
  exact ⟨rfl, hB6⟩
theorem mt_of_rows {nm : ByteArray} {ta : Option Addr} {tn tc : Nat} {tz : List Int} {ba : Option Addr} {bn bc : Nat} {bl : List Bk} {da : Option Addr} {dn dc : Nat} {dz : List Int} {bss : Int} {ra : Option Addr} {rn rc : Nat} {rz : List Int} {ia : Option Addr} {im ic : Nat} {ss : List ByteArray} {ea : Option Addr} {en ec : Nat} {es : List Ex} {w W : World} {g1 g2 g3 g5 g6 g7 : Nat} {gs : List Nat} (h : MT w nm ta tn tc tz ba bn bc bl da dn dc dz bss ra rn rc rz ia im ic ss ea en ec es) (hg : gs.length = bn)
    (r1 : RowI W g1 tz) (r2 : RowB W g2 bn gs bl) (r3 : Row8 W g3 dz) (r5 : RowI W g5 rz) (r6 : RowT W g6 ss) (r7 : RowX W g7 es) : MT W nm (some ⟨g1, 0, none⟩) tn tn tz (some ⟨g2, 0, none⟩) bn bn (reb gs bl) (some ⟨g3, 0, none⟩) dn dn dz bss (some ⟨g5, 0, none⟩) rn rn rz (some ⟨g6, 0, none⟩) im im ss (some ⟨g7, 0, none⟩) en en es where
  n := h.n
  t := r1.is (by rw [h.t.1]; exact h.t.2.1) h.t.2.2.1 _ _ h.t.1
  b := r2.bks h.b hg
  d := r3.bs (by rw [h.d.1]; exact h.d.2.1) h.d.2.2.1 _ _ h.d.1
  s := h.s
  r := r5.is (by rw [h.r.1]; exact h.r.2.1) h.r.2.2.1 _ _ h.r.1
  i := ⟨h.i.1, h.i.2.1, h.i.2.2.1, fun _ => ⟨g6, 0, rfl, fun i hi => by rw [Nat.zero_add]; exact r6.cell i (by rw [h.i.1]; exact hi)⟩, Nat.le_refl _⟩
  e := r7.te h.e
theorem md_of_mt {nm : ByteArray} {ta : Option Addr} {tn tc : Nat} {tz : List Int} {ba : Option Addr} {bn bc : Nat} {bl : List Bk} {da : Option Addr} {dn dc : Nat} {dz : List Int} {bss : Int} {ra : Option Addr} {rn rc : Nat} {rz : List Int} {ia : Option Addr} {im ic : Nat} {ss : List ByteArray} {ea : Option Addr} {en ec : Nat} {es : List Ex} {w : World} (h : MT w nm ta tn tc tz ba bn bc bl da dn dc dz bss ra rn rc rz ia im ic ss ea en ec es) (hs : mdSize nm tn bn bl dn rn im ss en es ≤ 1048576) : MD w nm ta tn tc tz ba bn bc bl da dn dc dz bss ra rn rc rz ia im ic ss ea en ec es where
  n := by unfold mdSize at hs; omega
  t := h.t
  b := h.b
  d := h.d
  s := h.s
  r := h.r
  i := h.i.ss (by unfold mdSize at hs; omega)
  e := h.e.es (by unfold mdSize at hs; omega)
theorem reb_size (gs : List Nat) (nm : ByteArray) (tn bn : Nat) (bl : List Bk) (dn rn im : Nat) (ss : List ByteArray) (en : Nat) (es : List Ex) (h : bl.length = bn) : mdSize nm tn bn (reb gs bl) dn rn im ss en es = mdSize nm tn bn bl dn rn im ss en es := by
  have key : ∀ k, k ≤ bn → upS (fun j => ((reb gs bl).getD j zB).2.1) k = upS (fun j => (bl.getD j zB).2.1) k := by
    intro k
    induction k with
    | zero => intro _; rfl
    | succ k ih =>
      intro hk
      show upS _ k + _ = upS _ k + _
      rw [ih (by omega)]
      congr 1
      simp only
      rw [reb_at _ _ _ (by omega)]
  unfold mdSize
  rw [key bn (Nat.le_refl _)]
structure Md where
  nm : ByteArray
  ta : Option Addr
  tn : Nat
  tc : Nat
  tz : List Int
  ba : Option Addr
  bn : Nat
  bc : Nat
  bl : List Bk
  da : Option Addr
  dn : Nat
  dc : Nat
  dz : List Int
  bss : Int
  ra : Option Addr
  rn : Nat
  rc : Nat
  rz : List Int
  ia : Option Addr
  im : Nat
  ic : Nat
  ss : List ByteArray
  ea : Option Addr
  en : Nat
  ec : Nat
  es : List Ex
def zMd : Md := ⟨⟨#[]⟩, none, 0, 0, [], none, 0, 0, [], none, 0, 0, [], 0, none, 0, 0, [], none, 0, 0, [], none, 0, 0, []⟩
def Md.mt (m : Md) (w : World) : Prop := MT w m.nm m.ta m.tn m.tc m.tz m.ba m.bn m.bc m.bl m.da m.dn m.dc m.dz m.bss m.ra m.rn m.rc m.rz m.ia m.im m.ic m.ss m.ea m.en m.ec m.es
def Md.size (m : Md) : Nat := mdSize m.nm m.tn m.bn m.bl m.dn m.rn m.im m.ss m.en m.es
def Md.cells (m : Md) : Array Value := #[.string m.nm, .slice m.ta m.tn m.tc, .slice m.ba m.bn m.bc, .slice m.da m.dn m.dc, .int .i64 m.bss, .slice m.ra m.rn m.rc, .slice m.ia m.im m.ic, .slice m.ea m.en m.ec]
def At8 (w : World) (b o : Nat) (m : Md) : Prop :=
  w.cell? ⟨b, o, none⟩ = some (.string m.nm) ∧ w.cell? ⟨b, o + 1, none⟩ = some (.slice m.ta m.tn m.tc) ∧ w.cell? ⟨b, o + 2, none⟩ = some (.slice m.ba m.bn m.bc) ∧ w.cell? ⟨b, o + 3, none⟩ = some (.slice m.da m.dn m.dc) ∧ w.cell? ⟨b, o + 4, none⟩ = some (.int .i64 m.bss) ∧ w.cell? ⟨b, o + 5, none⟩ = some (.slice m.ra m.rn m.rc) ∧ w.cell? ⟨b, o + 6, none⟩ = some (.slice m.ia m.im m.ic) ∧ w.cell? ⟨b, o + 7, none⟩ = some (.slice m.ea m.en m.ec)
theorem At8.below {w w' : World} {b o : Nat} {m : Md} (h : At8 w b o m) (hb : Below w.heap.size w w') : At8 w' b o m := by
  have key : ∀ o v, w.cell? ⟨b, o, none⟩ = some v → w'.cell? ⟨b, o, none⟩ = some v := fun o v hv => (hb.cell (World.block_lt_of_cell? w _ hv)).trans hv
  obtain ⟨h0, h1, h2, h3, h4, h5, h6, h7⟩ := h
  exact ⟨key _ _ h0, key _ _ h1, key _ _ h2, key _ _ h3, key _ _ h4, key _ _ h5, key _ _ h6, key _ _ h7⟩
theorem Md.below {m : Md} {w w' : World} (h : m.mt w) (hb : Below w.heap.size w w') : m.mt w' := MT.below h hb
def MS (w : World) (a : Option Addr) (n cap : Nat) (ms : List Md) : Prop :=
  ms.length = n ∧ n ≤ maxLen ∧ (n ≠ 0 → ∃ b off, a = some ⟨b, off, none⟩ ∧ ∀ i, i < n → At8 w b (off + i * 8) (ms.getD i zMd)) ∧ (∀ i, i < n → (ms.getD i zMd).mt w) ∧ n ≤ cap
theorem MS.below {w w' : World} {a : Option Addr} {n cap : Nat} {ms : List Md} (h : MS w a n cap ms) (hb : Below w.heap.size w w') : MS w' a n cap ms := by
  obtain ⟨h1, h2, h3, h4, h5⟩ := h
  refine ⟨h1, h2, fun hn => ?_, fun i hi => Md.below (h4 i hi) hb, h5⟩
  obtain ⟨b, off, e, hc⟩ := h3 hn
  exact ⟨b, off, e, fun i hi => (hc i hi).below hb⟩
theorem MS.at {w : World} {a : Option Addr} {n cap : Nat} {ms : List Md} (h : MS w a n cap ms) (i : Nat) (hi : i < n) : ∃ b off, a = some ⟨b, off, none⟩ ∧ At8 w b (off + i * 8) (ms.getD i zMd) := by
  obtain ⟨b, off, e, hc⟩ := h.2.2.1 (by omega)
  exact ⟨b, off, e, hc i hi⟩
set_option maxHeartbeats 1000000 in
theorem szModuleS_any (a : Option Addr) (n cap : Nat) (ms : List Md) (l : Int) (w : World) (h : MS w a n cap ms) (l0 : 0 ≤ l) (l1 : l ≤ 1048576) :
    Calls Tryz.prog 9 #[.slice a n cap, .int .i64 l] w fun e w' => e = .returned (.int .i64 (szR l (n + upS (fun j => (ms.getD j zMd).size) n))) ∧ Below w.heap.size w w' := by
  have hm := h.2.1
  unfold maxLen at hm
  obtain ⟨r, hr⟩ : ∃ r, r = szR l (n + upS (fun j => (ms.getD j zMd).size) n) := ⟨_, rfl⟩
  rw [← hr]
  unfold szR at hr
  have HR := hide hr
  clear hr
  by_cases c1 : l < (n : Int)
  · have e := hide (show r = -1 from by rw [HR.out, if_pos (by omega)])
    go_enter Tryz.func9, Tryz.ntmps9
    go_wp2
    go_ret
    exact ⟨ret_int e.out.symm, Below.refl _ _⟩
  · go_enter Tryz.func9, Tryz.ntmps9
    go_wp2_with fail
    go_loopw [1, 5] (fun v i wr => ∃ (k : Nat) (z : Int), k ≤ n ∧ i = .int .i64 k ∧ v = .int .i64 z ∧ 0 ≤ z ∧ z ≤ 1048576 ∧ Hid (z = l - n - (upS (fun j => (ms.getD j zMd).size) k : Nat)) ∧ Below w.heap.size w wr) (fun _ i _ => n - (intOf i).toNat)
    case atStart => exact ⟨0, l - n, Nat.zero_le _, rfl, rfl, by omega, by omega, hide (by simp [upS]), Below.refl _ _⟩
    case round =>
      obtain ⟨k, z, hk, rfl, rfl, z0, z1, HZ, hB⟩ := hrel
      by_cases hlt : k < n
      · have hlt' : (k : Int) < (n : Int) := by omega
        obtain ⟨b, off, rfl, y0, y1, y2, y3, y4, y5, y6, y7⟩ := (h.below hB).at k hlt
        have HT := hide ((h.below hB).2.2.2.1 k hlt)
        have HU := hide (show upS (fun j => (ms.getD j zMd).size) (k + 1) = upS (fun j => (ms.getD j zMd).size) k + (ms.getD k zMd).size from rfl)
        have HM := hide (upS_mono (fun j => (ms.getD j zMd).size) (k + 1) n (by omega))
        generalize ms.getD k zMd = m at *
        obtain ⟨nm, ta, tn, tc, tz, ba, bn, bc, bl, da, dn, dc, dz, bss, ra, rn, rc, rz, ia, im, ic, ss, ea, en, ec, es⟩ := m
        dsimp only at y0 y1 y2 y3 y4 y5 y6 y7
        have HS := hide (szModule_any nm ta tn tc tz ba bn bc bl da dn dc dz bss ra rn rc rz ia im ic ss ea en ec es z wr HT.out z0 z1)
        have HE := hide (show Md.size ⟨nm, ta, tn, tc, tz, ba, bn, bc, bl, da, dn, dc, dz, bss, ra, rn, rc, rz, ia, im, ic, ss, ea, en, ec, es⟩ = mdSize nm tn bn bl dn rn im ss en es from rfl)
        rw [HE.out] at HU
        generalize mdSize nm tn bn bl dn rn im ss en es = q at *
        unfold szR at HS
        by_cases c2 : z < (q : Int)
        · rw [if_pos c2] at HS
          have e := hide (show r = -1 from by
            have h1 := HZ.out; have h2 := HU.out; have h3 := HM.out
            rw [HR.out, if_pos (by omega)])
          go_wp2_with fail
          refine HS.out.mono ?_
          rintro e w1 ⟨rfl, hb1⟩
          go_wp2
          go_ret
          exact ⟨ret_int e.out.symm, hB.trans (hb1.mono hB.size)⟩
        · rw [if_neg c2] at HS
          have hz2 : ¬ z - (q : Int) < 0 := by omega
          go_wp2_with fail
          refine HS.out.mono ?_
          rintro e w1 ⟨rfl, hb1⟩
          clear y0 y1 y2 y3 y4 y5 y6 y7
          go_wp2
          go_roundw
          case rel => exact ⟨k + 1, z - q, by omega, by go_num, rfl, by omega, by omega, hide (by have h1 := HZ.out; have h2 := HU.out; omega), hB.trans (hb1.mono hB.size)⟩
          case measure => simp [intOf]; omega
      · have e := hide (show r = z from by
          have h1 := HZ.out
          have hkn : k = n := by omega
          rw [hkn] at h1
          rw [HR.out, if_neg (by omega)]
          omega)
        go_wp2
        go_ret
        exact ⟨ret_int e.out.symm, hB⟩
end Go.Proofs.YtngdgogjlpjjpaeGreat
