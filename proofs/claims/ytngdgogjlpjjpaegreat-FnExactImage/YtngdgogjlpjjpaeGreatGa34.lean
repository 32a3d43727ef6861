import Derived.Test.YtngdgogjlpjjpaeGreatGa33
import Derived.Test.YtngdgogjlpjjpaeGreatGa30
import Derived.Test.YtngdgogjlpjjpaeGreatGa27
import Derived.Test.YtngdgogjlpjjpaeGreatGa28
namespace Go.Proofs.YtngdgogjlpjjpaeGreat
open Go.RowKit Classical
set_option linter.unusedVariables false
set_option linter.unusedSimpArgs false
set_option maxRecDepth 100000

/-- the three boxes of a copier: what it was given, its answer, its variable -/
structure TL (w W : World) (cb : Array Value) (tb : TypeId) (cr co : Array Value) (t : TypeId) : Prop where
  kb : Blk W w.heap.size cb tb
  kr : Blk W (w.heap.size + 1) cr t
  ko : Blk W (w.heap.size + 1 + 1) co t
  hB : Below w.heap.size w W
theorem TL.below {w W W' : World} {cb cr co : Array Value} {tb t : TypeId} (h : TL w W cb tb cr co t) (hb : Below W.heap.size W W') : TL w W' cb tb cr co t := ⟨h.kb.below hb, h.kr.below hb, h.ko.below hb, h.hB.trans (hb.mono h.hB.size)⟩
theorem TL.set {w W : World} {cb cr co : Array Value} {tb t : TypeId} (h : TL w W cb tb cr co t) (i : Nat) (v : Value) : TL w (W.setCell ⟨w.heap.size + 1 + 1, i, none⟩ v) cb tb cr (co.setIfInBounds i v) t :=
  ⟨h.kb.other _ _ (by dsimp only; omega), h.kr.other _ _ (by dsimp only; omega), h.ko.set i v, h.hB.setCell (p := ⟨w.heap.size + 1 + 1, i, none⟩) (by dsimp only; omega) v⟩
theorem TL.setr {w W : World} {cb cr co : Array Value} {tb t : TypeId} (h : TL w W cb tb cr co t) (i : Nat) (v : Value) : TL w (W.setCell ⟨w.heap.size + 1, i, none⟩ v) cb tb (cr.setIfInBounds i v) co t :=
  ⟨h.kb.other _ _ (by dsimp only; omega), h.kr.set i v, h.ko.other _ _ (by dsimp only; omega), h.hB.setCell (p := ⟨w.heap.size + 1, i, none⟩) (by dsimp only; omega) v⟩
theorem Blk.lyt {w : World} {b : Nat} {t : TypeId} {v0 v1 v2 v3 v4 v5 : Value} (h : Blk w b #[v0, v1, v2, v3, v4, v5] t) : w.cell? ⟨b, 0, none⟩ = some v0 ∧ w.cell? ⟨b, 1, none⟩ = some v1 ∧ w.cell? ⟨b, 2, none⟩ = some v2 ∧ w.cell? ⟨b, 3, none⟩ = some v3 ∧ w.cell? ⟨b, 4, none⟩ = some v4 ∧ w.cell? ⟨b, 5, none⟩ = some v5 := ⟨h.cell 0, h.cell 1, h.cell 2, h.cell 3, h.cell 4, h.cell 5⟩
def ToL (w : World) (L : Lay) (e : Ending) (w' : World) : Prop := Below w.heap.size w w' ∧ ∃ a0 c0 xs a2 c2 a5 c5 ts, e = .returned (.agg #[.slice a0 xs.length c0, .int .i64 L.stack, .slice a2 L.slots.length c2, .int .i64 L.flash, .int .i64 L.ram, .slice a5 ts.length c5]) ∧ LayO w' w.heap.size L a0 c0 xs a2 c2 a5 c5 ts

set_option maxHeartbeats 4000000 in
theorem toLayout_any (L : Lay) (a0 : Option Addr) (c0 : Nat) (xs : List PB) (a2 : Option Addr) (c2 : Nat) (a5 : Option Addr) (c5 : Nat) (ts : List TB) (w : World) (h : LyT w L a0 c0 xs a2 c2 a5 c5 ts) (hs : lySz L xs ts ≤ 1048576) :
    Calls Tryz.prog 13 #[.agg #[.slice a0 xs.length c0, .int .i64 L.stack, .slice a2 L.slots.length c2, .int .i64 L.flash, .int .i64 L.ram, .slice a5 ts.length c5]] w (ToL w L) := by
  obtain ⟨l1, l2, l3, l4, l5⟩ : xs.length ≤ 1048576 ∧ L.slots.length ≤ 1048576 ∧ ts.length ≤ 1048576 ∧ (∀ i, i < xs.length → (xs.getD i zPB).1.banks.length ≤ 1048576) ∧ (∀ i, i < ts.length → (ts.getD i zTB).1.length ≤ 1048576) := by
    unfold lySz plSz tsSz at hs
    refine ⟨by omega, by omega, by omega, fun i hi => ?_, fun i hi => ?_⟩
    · have := upS_le (fun j => (xs.getD j zPB).1.banks.length) xs.length i hi; omega
    · have := upS_le (fun j => (ts.getD j zTB).1.length) ts.length i hi; omega
  have M0 : TL w (((w.alloc (.cells #[.slice a0 xs.length c0, .int .i64 L.stack, .slice a2 L.slots.length c2, .int .i64 L.flash, .int .i64 L.ram, .slice a5 ts.length c5] 27)).alloc (.cells #[.slice none 0 0, .int .i64 0, .slice none 0 0, .int .i64 0, .int .i64 0, .slice none 0 0] 36)).alloc (.cells #[.slice none 0 0, .int .i64 0, .slice none 0 0, .int .i64 0, .int .i64 0, .slice none 0 0] 36)) #[.slice a0 xs.length c0, .int .i64 L.stack, .slice a2 L.slots.length c2, .int .i64 L.flash, .int .i64 L.ram, .slice a5 ts.length c5] 27 #[.slice none 0 0, .int .i64 0, .slice none 0 0, .int .i64 0, .int .i64 0, .slice none 0 0] #[.slice none 0 0, .int .i64 0, .slice none 0 0, .int .i64 0, .int .i64 0, .slice none 0 0] 36 :=
    ⟨((Blk.new w _ _).alloc _).alloc _, by have := (Blk.new (w.alloc (.cells #[.slice a0 xs.length c0, .int .i64 L.stack, .slice a2 L.slots.length c2, .int .i64 L.flash, .int .i64 L.ram, .slice a5 ts.length c5] 27)) #[.slice none 0 0, .int .i64 0, .slice none 0 0, .int .i64 0, .int .i64 0, .slice none 0 0] 36).alloc (.cells #[.slice none 0 0, .int .i64 0, .slice none 0 0, .int .i64 0, .int .i64 0, .slice none 0 0] 36); simpa using this,
     by have := Blk.new ((w.alloc (.cells #[.slice a0 xs.length c0, .int .i64 L.stack, .slice a2 L.slots.length c2, .int .i64 L.flash, .int .i64 L.ram, .slice a5 ts.length c5] 27)).alloc (.cells #[.slice none 0 0, .int .i64 0, .slice none 0 0, .int .i64 0, .int .i64 0, .slice none 0 0] 36)) #[.slice none 0 0, .int .i64 0, .slice none 0 0, .int .i64 0, .int .i64 0, .slice none 0 0] 36; simpa using this,
     (((Below.refl _ _).alloc (Nat.le_refl _) _).alloc (by simp) _).alloc (by simp; omega) _⟩
  go_enter Tryz.func13, Tryz.ntmps13
  go_wp2_with fail
  refine (toPlaceS_any a0 xs.length c0 xs _ (h.p.below M0.hB) l1 l4).mono ?_
  rintro e w1 ⟨ys, hys, rfl, O1, hb1⟩
  have M1 := M0.below hb1
  simp only [World.size_alloc] at O1
  have hly : ys.length = xs.length := by have := congrArg List.length hys; simpa using this
  have z1 : w.heap.size + 1 + 1 + 1 ≤ w1.heap.size := by have := hb1.size; simpa using this
  clear M0 hb1
  obtain ⟨q0, q1, q2, q3, q4, q5⟩ := M1.kb.lyt
  obtain ⟨o0, o1, o2, o3, o4, o5⟩ := M1.ko.lyt
  have of := M1.ko.frozen
  have M1a := (M1.set 0 (.slice (some ⟨w.heap.size + 1 + 1 + 1, 0, none⟩) xs.length xs.length)).set 1 (.int .i64 L.stack)
  have T1 : Turn (fun j => j = w.heap.size + 1 + 1) w1 ((w1.setCell ⟨w.heap.size + 1 + 1, 0, none⟩ (.slice (some ⟨w.heap.size + 1 + 1 + 1, 0, none⟩) xs.length xs.length)).setCell ⟨w.heap.size + 1 + 1, 1, none⟩ (.int .i64 L.stack)) := (turn_set _ _ _ _).trans (turn_set _ _ _ _)
  simp only [List.setIfInBounds_toArray, List.set_cons_zero, List.set_cons_succ] at M1a
  obtain ⟨r0, r1, r2, r3, r4, r5⟩ := M1a.kb.lyt
  clear M1
  go_wp2_with fail
  refine (toIntS_any a2 L.slots.length c2 L.slots _ (h.s.below M1a.hB) l2).mono ?_
  rintro e w2 ⟨rfl, R2, hb2⟩
  have M2 := M1a.below hb2
  simp only [size_setCell] at R2
  have O2 : OPl w2 (w.heap.size + 1 + 1 + 1) (w.heap.size + 1 + 1 + 1) (.slice (some ⟨w.heap.size + 1 + 1 + 1, 0, none⟩) xs.length xs.length) ys := (OR.kept O1 T1 (fun k hk e => by have := (OR.lt O1).1 k hk; omega) (fun x hx k hk e => by have := (OR.lt O1).2 x hx k hk; omega)).below hb2
  have HPL := hide (show (∀ k, (Value.slice (some ⟨w1.heap.size, 0, none⟩) L.slots.length L.slots.length).ownBlock = some k → ∀ x ∈ ys, (svP x).ownBlock ≠ some k) from fun k hk x hx e => by
    have := ((OR.lt O1).2 x hx k e).2
    simp [Value.ownBlock] at hk
    omega)
  have z2 : w1.heap.size < w2.heap.size := R2.lt
  clear M1a hb2 T1 O1 q0 q1 q2 q3 q4 q5 o0 o1 o2 o3 o4 o5 r0 r1 r2 r3 r4 r5 of
  obtain ⟨q0, q1, q2, q3, q4, q5⟩ := M2.kb.lyt
  obtain ⟨o0, o1, o2, o3, o4, o5⟩ := M2.ko.lyt
  have of := M2.ko.frozen
  have M2a := ((M2.set 2 (.slice (some ⟨w1.heap.size, 0, none⟩) L.slots.length L.slots.length)).set 3 (.int .i64 L.flash)).set 4 (.int .i64 L.ram)
  have T2 : Turn (fun j => j = w.heap.size + 1 + 1) w2 (((w2.setCell ⟨w.heap.size + 1 + 1, 2, none⟩ (.slice (some ⟨w1.heap.size, 0, none⟩) L.slots.length L.slots.length)).setCell ⟨w.heap.size + 1 + 1, 3, none⟩ (.int .i64 L.flash)).setCell ⟨w.heap.size + 1 + 1, 4, none⟩ (.int .i64 L.ram)) := ((turn_set _ _ _ _).trans (turn_set _ _ _ _)).trans (turn_set _ _ _ _)
  simp only [List.setIfInBounds_toArray, List.set_cons_zero, List.set_cons_succ] at M2a
  obtain ⟨r0, r1, r2, r3, r4, r5⟩ := M2a.kb.lyt
  clear M2
  go_wp2_with fail
  refine (toTargetSS_any a5 ts.length c5 ts _ (h.t.below M2a.hB) l3 l5).mono ?_
  rintro e w3 ⟨us, hus, rfl, O3, hb3⟩
  have M3 := M2a.below hb3
  simp only [size_setCell] at O3
  have hlu : us.length = ts.length := by have := congrArg List.length hus; simpa using this
  have T23 := T2.trans (turn_below (S := fun j => j = w.heap.size + 1 + 1) hb3)
  have OP3 : OPl w3 (w.heap.size + 1 + 1 + 1) (w.heap.size + 1 + 1 + 1) (.slice (some ⟨w.heap.size + 1 + 1 + 1, 0, none⟩) xs.length xs.length) ys := OR.kept O2 T23 (fun k hk e => by have := (OR.lt O2).1 k hk; omega) (fun x hx k hk e => by have := (OR.lt O2).2 x hx k hk; omega)
  have R3 : RowI w3 w1.heap.size L.slots := turn_blk T23 (show Blk w2 w1.heap.size _ _ from R2) (by omega)
  have LO : LayO w3 (w.heap.size + 1 + 1 + 1) L (some ⟨w.heap.size + 1 + 1 + 1, 0, none⟩) xs.length ys (some ⟨w1.heap.size, 0, none⟩) L.slots.length (some ⟨w2.heap.size, 0, none⟩) ts.length us :=
    ⟨by rw [hly]; exact OP3, hys.trans h.ps, rowi_og R3 z1 h.s.2.1, by rw [hlu]; exact OR.mono O3 (by omega) (by omega), hus.trans h.tt, HPL.out⟩
  clear M2a hb3 T2 T23 O2 O3 OP3 R2 R3 HPL q0 q1 q2 q3 q4 q5 o0 o1 o2 o3 o4 o5 r0 r1 r2 r3 r4 r5 of
  obtain ⟨o0, o1, o2, o3, o4, o5⟩ := M3.ko.lyt
  obtain ⟨p0, p1, p2, p3, p4, p5⟩ := M3.kr.lyt
  have of := M3.ko.frozen
  have pf := M3.kr.frozen
  have HFIN := hide (fun W' (T : Turn (fun j => j = w.heap.size + 1 ∨ j = w.heap.size + 1 + 1) w3 W') => And.intro (below_turn M3.hB T (fun k hk => by omega) M3.hB.size) ((LO.kept T (fun j hj _ e => by omega)).mono (show w.heap.size ≤ w.heap.size + 1 + 1 + 1 by omega)))
  have HT := hide (show Turn (fun j => j = w.heap.size + 1 ∨ j = w.heap.size + 1 + 1) w3 (((((((w3.setCell ⟨w.heap.size + 1 + 1, 5, none⟩ (.slice (some ⟨w2.heap.size, 0, none⟩) ts.length ts.length)).setCell ⟨w.heap.size + 1, 0, none⟩ (.slice (some ⟨w.heap.size + 1 + 1 + 1, 0, none⟩) xs.length xs.length)).setCell ⟨w.heap.size + 1, 1, none⟩ (.int .i64 L.stack)).setCell ⟨w.heap.size + 1, 2, none⟩ (.slice (some ⟨w1.heap.size, 0, none⟩) L.slots.length L.slots.length)).setCell ⟨w.heap.size + 1, 3, none⟩ (.int .i64 L.flash)).setCell ⟨w.heap.size + 1, 4, none⟩ (.int .i64 L.ram)).setCell ⟨w.heap.size + 1, 5, none⟩ (.slice (some ⟨w2.heap.size, 0, none⟩) ts.length ts.length)) from
    (((((((turn_set _ _ _ _).mono (fun j e => .inr e)).trans ((turn_set _ _ _ _).mono (fun j e => .inl e))).trans ((turn_set _ _ _ _).mono (fun j e => .inl e))).trans ((turn_set _ _ _ _).mono (fun j e => .inl e))).trans ((turn_set _ _ _ _).mono (fun j e => .inl e))).trans ((turn_set _ _ _ _).mono (fun j e => .inl e))).trans ((turn_set _ _ _ _).mono (fun j e => .inl e)))
  have HL := hide (And.intro hly hlu)
  clear M3 LO hly hlu z1 z2
  go_wp2
  refine bodyPost_ret (v := .agg #[.slice (some ⟨w.heap.size + 1 + 1 + 1, 0, none⟩) xs.length xs.length, .int .i64 L.stack, .slice (some ⟨w1.heap.size, 0, none⟩) L.slots.length L.slots.length, .int .i64 L.flash, .int .i64 L.ram, .slice (some ⟨w2.heap.size, 0, none⟩) ts.length ts.length]) (by simp [results, Tryz.results13, go_sem, p0, p1, p2, p3, p4, p5]) rfl ⟨(HFIN.out _ HT.out).1, some ⟨w.heap.size + 1 + 1 + 1, 0, none⟩, xs.length, ys, some ⟨w1.heap.size, 0, none⟩, L.slots.length, some ⟨w2.heap.size, 0, none⟩, ts.length, us, ?_, (HFIN.out _ HT.out).2⟩
  rw [HL.out.1, HL.out.2]
end Go.Proofs.YtngdgogjlpjjpaeGreat

namespace Go.Proofs.YtngdgogjlpjjpaeGreat
open Go.RowKit Classical
set_option linter.unusedVariables false
set_option linter.unusedSimpArgs false
set_option maxRecDepth 100000

set_option maxHeartbeats 2000000 in
theorem szLayout_any (L : Lay) (a0 : Option Addr) (c0 : Nat) (xs : List PB) (a2 : Option Addr) (c2 : Nat) (a5 : Option Addr) (c5 : Nat) (ts : List TB) (l : Int) (w : World) (h : LyT w L a0 c0 xs a2 c2 a5 c5 ts) (l0 : 0 ≤ l) (l1 : l ≤ 1048576) :
    Calls Tryz.prog 10 #[.agg #[.slice a0 xs.length c0, .int .i64 L.stack, .slice a2 L.slots.length c2, .int .i64 L.flash, .int .i64 L.ram, .slice a5 ts.length c5], .int .i64 l] w fun e w' => e = .returned (.int .i64 (szR l (lySz L xs ts))) ∧ Below w.heap.size w w' := by
  have k0 := Blk.new w #[.slice a0 xs.length c0, .int .i64 L.stack, .slice a2 L.slots.length c2, .int .i64 L.flash, .int .i64 L.ram, .slice a5 ts.length c5] 27
  have B0 : Below w.heap.size w (w.alloc (.cells #[.slice a0 xs.length c0, .int .i64 L.stack, .slice a2 L.slots.length c2, .int .i64 L.flash, .int .i64 L.ram, .slice a5 ts.length c5] 27)) := (Below.refl _ _).alloc (Nat.le_refl _) _
  have H1 := hide (szPlaceS_any a0 xs.length c0 xs l _ (h.p.below B0) l0 l1)
  have H2 := hide (fun (z : Int) (W : World) (z0 : 0 ≤ z) (z1 : z ≤ 1048576) => szIntS_any a2 L.slots.length c2 z W z0 z1 h.s.2.1)
  have H3 := hide (fun (z : Int) (W : World) (hb : Below w.heap.size w W) (z0 : 0 ≤ z) (z1 : z ≤ 1048576) => szTargetSS_any a5 ts.length c5 ts z W (h.t.below hb) z0 z1)
  rw [show xs.length + upS (fun j => (xs.getD j zPB).1.banks.length) xs.length = plSz xs from rfl] at H1
  rw [show ts.length + upS (fun j => (ts.getD j zTB).1.length) ts.length = tsSz ts from rfl] at H3
  have HY := hide (show lySz L xs ts = plSz xs + L.slots.length + tsSz ts from rfl)
  obtain ⟨r, hr⟩ : ∃ r, r = szR l (lySz L xs ts) := ⟨_, rfl⟩
  rw [← hr]
  rw [HY.out] at hr
  unfold szR at hr H1 H3
  have HR := hide hr
  have HK := hide (And.intro B0 k0)
  clear hr HY B0 k0 h
  generalize plSz xs = p at *
  generalize tsSz ts = t at *
  by_cases c1 : l < (p : Int)
  · rw [if_pos c1] at H1
    have e := hide (show r = -1 from by rw [HR.out, if_pos (by omega)])
    go_enter Tryz.func10, Tryz.ntmps10
    go_wp2_with fail
    refine H1.out.mono ?_
    rintro e w1 ⟨rfl, hb1⟩
    go_wp2
    go_ret
    exact ⟨ret_int e.out.symm, HK.out.1.trans (hb1.mono HK.out.1.size)⟩
  rw [if_neg c1] at H1
  have d1 : ¬ l - (p : Int) < 0 := by omega
  go_enter Tryz.func10, Tryz.ntmps10
  go_wp2_with fail
  refine H1.out.mono ?_
  rintro e w1 ⟨rfl, hb1⟩
  have B1 := HK.out.1.trans (hb1.mono HK.out.1.size)
  have k1 := HK.out.2.below hb1
  clear hb1 HK H1
  have q2 : w1.cell? ⟨w.heap.size, 2, none⟩ = some (.slice a2 L.slots.length c2) := k1.cell 2
  have q5 : w1.cell? ⟨w.heap.size, 5, none⟩ = some (.slice a5 ts.length c5) := k1.cell 5
  go_wp2_with fail
  refine (H2.out (l - p) _ (by omega) (by omega)).mono ?_
  rintro e w2 ⟨rfl, rfl⟩
  by_cases c2' : l - (p : Int) < (L.slots.length : Int)
  · rw [if_pos c2']
    have e := hide (show r = -1 from by rw [HR.out, if_pos (by omega)])
    go_wp2
    go_ret
    exact ⟨ret_int e.out.symm, B1⟩
  rw [if_neg c2']
  have d2 : ¬ l - (p : Int) - (L.slots.length : Int) < 0 := by omega
  go_wp2_with fail
  refine (H3.out (l - p - L.slots.length) _ B1 (by omega) (by omega)).mono ?_
  rintro e w3 ⟨rfl, rfl⟩
  by_cases c3 : l - (p : Int) - (L.slots.length : Int) < (t : Int)
  · rw [if_pos c3]
    have e := hide (show r = -1 from by rw [HR.out, if_pos (by omega)])
    go_wp2
    go_ret
    exact ⟨ret_int e.out.symm, B1⟩
  rw [if_neg c3]
  have d3 : ¬ l - (p : Int) - (L.slots.length : Int) - (t : Int) < 0 := by omega
  have e := hide (show r = l - (p : Int) - (L.slots.length : Int) - (t : Int) from by rw [HR.out, if_neg (by omega)]; omega)
  go_wp2
  go_ret
  exact ⟨ret_int e.out.symm, B1⟩
end Go.Proofs.YtngdgogjlpjjpaeGreat

namespace Go.Proofs.YtngdgogjlpjjpaeGreat
open Go.RowKit Classical
set_option linter.unusedVariables false
set_option linter.unusedSimpArgs false
set_option maxRecDepth 100000

set_option maxHeartbeats 2000000 in
theorem markTargetSS_big (a : Option Addr) (n cap k base : Nat) (f : Nat → TB) (X : Nat → List Tg) (w : World) (h : Rt w base a n f X) (hn : n ≤ 1048576) (hr : ∀ i, i < n → (f i).1.length ≤ 1048576) (hz : k + sumT f n ≤ 4194304) :
    Calls Tryz.prog 96 #[.slice a n cap, .int .i64 k] w fun e w' => e = .returned (.int .i64 ((k + sumT f n : Nat) : Int)) ∧ Rt w' base a n f (mrkT k f) ∧ Turn (St f n) w w' := by
  have HH := hide h
  clear h
  go_enter Tryz.func96, Tryz.ntmps96
  go_wp2
  go_loopw [1, 5] (fun x i wr => ∃ m : Nat, m ≤ n ∧ i = .int .i64 m ∧ x = .int .i64 ((k + sumT f m : Nat) : Int) ∧ Rt wr base a n f (fun i => if i < m then mrkT k f i else X i) ∧ Turn (St f n) w wr) (fun _ i _ => n - (intOf i).toNat)
  case atStart => exact ⟨0, Nat.zero_le _, rfl, rfl, HH.out, Turn.refl _ _⟩
  case round =>
    obtain ⟨m, hm, rfl, rfl, R, T⟩ := hrel
    by_cases hlt : m < n
    · have hlt' : (m : Int) < (n : Int) := by omega
      obtain ⟨g, cs, rfl, hng, hb, hc⟩ := R.head (by omega)
      have c0 := (hb.cell m).trans (hc m hlt)
      have hle := sumT_le f n m hlt
      have hrm := hr m hlt
      have hr := R.rows m hlt
      simp only [Nat.lt_irrefl, if_false] at hr
      have HMK := hide (markTargetS_any (f m).2.1 (f m).1.length (f m).2.2 base (X m) (k + sumT f m) wr hr (by omega) (by omega))
      have HFIN := hide (fun (w1 : World) (O1 : OG 71 3 clG w1 base (svT (f m)) (marksG (k + sumT f m) (f m).1.length)) (T1 : Turn (fun j => (svT (f m)).ownBlock = some j) wr w1) => show Rt w1 base (some ⟨g, 0, none⟩) n f (fun i => if i < m + 1 then mrkT k f i else X i) ∧ Turn (St f n) w w1 from by
        refine ⟨⟨fun _ => ⟨g, cs, rfl, hng, turn_blk T1 hb (fun e => hng ⟨m, hlt, e⟩), hc⟩, fun i hi => ?_, R.apart⟩, T.trans (T1.mono (fun j hj => ⟨m, hlt, hj⟩))⟩
        by_cases e : i = m
        · subst e
          simp only [show i < i + 1 by omega, if_true]
          exact O1
        · have hi' := (R.rows i hi).kept T1 (fun q hq hq' => R.apart i m hi hlt e q hq hq')
          by_cases e2 : i < m
          · simp only [e2, if_true, show i < m + 1 by omega] at hi' ⊢
            exact hi'
          · simp only [e2, if_false, show ¬ i < m + 1 by omega] at hi' ⊢
            exact hi')
      have HSU := hide (show sumT f (m + 1) = sumT f m + 3 * (f m).1.length from rfl)
      clear R T hb hc hr
      generalize sumT f m = sm at *
      unfold svT at c0 HFIN
      generalize f m = fm at *
      obtain ⟨fl, fa, fc⟩ := fm
      dsimp only at *
      go_wp2_with fail
      refine HMK.out.mono ?_
      rintro e w1 ⟨rfl, O1, T1⟩
      have HX := hide (HFIN.out w1 O1 T1)
      clear O1 T1 HFIN HMK c0
      go_wp2
      go_roundw
      case rel => exact ⟨m + 1, by omega, by go_num, by rw [HSU.out]; go_num, HX.out.1, HX.out.2⟩
      case measure => simp [intOf]; omega
    · have e : Hid (m = n) := by show m = n; omega
      have HX := hide (And.intro R T)
      clear R T
      go_wp2
      go_ret
      refine ⟨ret_int (by rw [e.out]), ?_, HX.out.2⟩
      have R := HX.out.1
      refine ⟨R.head, fun i hi => ?_, R.apart⟩
      have := R.rows i hi
      rw [e.out] at this
      simp only [hi, if_true] at this
      exact this

set_option maxHeartbeats 4000000 in
theorem markPlaceS_big (a : Option Addr) (n cap k base : Nat) (f : Nat → Rw3) (V : Nat → Int × Int × Int) (X : Nat → List Int) (w : World) (h : Rp w base a n f V X) (hn : n ≤ 1048576) (hr : ∀ i, i < n → (f i).2.1 ≤ 1048576) (hz : k + sumP f n ≤ 4194304) :
    Calls Tryz.prog 95 #[.slice a n cap, .int .i64 k] w fun e w' => e = .returned (.int .i64 ((k + sumP f n : Nat) : Int)) ∧ Rp w' base a n f (mvP k f) (mrkP k f) ∧ Turn (Sp a f n) w w' := by
  have HH := hide h
  clear h
  go_enter Tryz.func95, Tryz.ntmps95
  go_wp2
  go_loopw [1, 5] (fun x i wr => ∃ m : Nat, m ≤ n ∧ i = .int .i64 m ∧ x = .int .i64 ((k + sumP f m : Nat) : Int) ∧ Rp wr base a n f (fun i => if i < m then mvP k f i else V i) (fun i => if i < m then mrkP k f i else X i) ∧ Turn (Sp a f n) w wr) (fun _ i _ => n - (intOf i).toNat)
  case atStart => exact ⟨0, Nat.zero_le _, rfl, rfl, HH.out, Turn.refl _ _⟩
  case round =>
    obtain ⟨m, hm, rfl, rfl, R, T⟩ := hrel
    by_cases hlt : m < n
    · have hlt' : (m : Int) < (n : Int) := by omega
      obtain ⟨g, cs, rfl, hng, hb, hc⟩ := R.head (by omega)
      have hf : ∀ i, wr.frozen? ⟨g, i, none⟩ = false := fun i => hb.frozen i
      obtain ⟨d0, d1, d2, d3⟩ := hc m hlt
      have c0 := (hb.cell (m * 4)).trans d0
      have hle := sumP_le f n m hlt
      have hrm := hr m hlt
      have hr := R.rows m hlt
      simp only [Nat.lt_irrefl, if_false] at hr
      have T0 : Turn (fun j => j = g) wr (wr.setCell ⟨g, m * 4, none⟩ (.int .i64 ((k : Int) + (sumP f m : Int)))) := turn_set _ _ _ _
      have hr0 := turn_oi T0 hr (fun k hk s => hng ⟨m, hlt, by rw [← s]; exact hk⟩)
      have hb0 := hb.set (m * 4) (.int .i64 ((k : Int) + (sumP f m : Int)))
      have c1 := (hb0.cell (m * 4 + 1)).trans (ar_other d1 (by omega))
      have HMK := hide (by
        have := markIntS_any (f m).1 (f m).2.1 (f m).2.2 base (X m) (k + sumP f m + 1) _ hr0 (by omega) (by omega)
        rw [show ((k + sumP f m + 1 : Nat) : Int) = (k : Int) + (sumP f m : Int) + 1 by push_cast; rfl] at this
        exact this)
      have HCL := hide (fun (w1 : World) (T1 : Turn (fun j => (svR (f m)).ownBlock = some j) (wr.setCell ⟨g, m * 4, none⟩ (.int .i64 ((k : Int) + (sumP f m : Int)))) w1) => by
        have b1 := turn_blk T1 hb0 (fun e => hng ⟨m, hlt, e⟩)
        exact And.intro ((b1.cell (m * 4 + 2)).trans (ar_other d2 (by omega))) (And.intro ((b1.cell (m * 4 + 3)).trans (ar_other d3 (by omega))) (fun i => b1.frozen i)))
      have HFIN := hide (fun (w1 : World) (y z : Int) (hy : y = ((k + sumP f m + 1 + (f m).2.1 : Nat) : Int)) (hz : z = ((k + sumP f m + 1 + (f m).2.1 + 1 : Nat) : Int)) (O1 : OI w1 base (svR (f m)) (marksI (k + sumP f m + 1) (f m).2.1)) (T1 : Turn (fun j => (svR (f m)).ownBlock = some j) (wr.setCell ⟨g, m * 4, none⟩ (.int .i64 ((k : Int) + (sumP f m : Int)))) w1) => show Rp ((w1.setCell ⟨g, m * 4 + 2, none⟩ (.int .i64 y)).setCell ⟨g, m * 4 + 3, none⟩ (.int .i64 z)) base (some ⟨g, 0, none⟩) n f (fun i => if i < m + 1 then mvP k f i else V i) (fun i => if i < m + 1 then mrkP k f i else X i) ∧ Turn (Sp (some ⟨g, 0, none⟩) f n) w ((w1.setCell ⟨g, m * 4 + 2, none⟩ (.int .i64 y)).setCell ⟨g, m * 4 + 3, none⟩ (.int .i64 z)) from by
        refine ⟨R.step hng hb hc hlt _ y z (fun i hi => ?_) ?_ (fun i hi => ?_) T1 ?_, ?_⟩
        · by_cases e2 : i < m
          · rw [if_pos e2, if_pos (by omega)]
          · rw [if_neg e2, if_neg (by omega)]
        · rw [if_pos (by omega), hy, hz]; unfold mvP; push_cast; rfl
        · by_cases e2 : i < m
          · rw [if_pos e2, if_pos (by omega)]
          · rw [if_neg e2, if_neg (by omega)]
        · simp only [show m < m + 1 by omega, if_true]; exact O1
        · exact ((T.trans (T0.mono (fun j hj => .inr ⟨by omega, g, rfl, hj⟩))).trans (T1.mono (fun j hj => .inl ⟨m, hlt, hj⟩))).trans (((turn_set w1 g (m * 4 + 2) _).trans (turn_set _ g (m * 4 + 3) _)).mono (fun j hj => .inr ⟨by omega, g, rfl, hj⟩)))
      have HSU := hide (show sumP f (m + 1) = sumP f m + ((f m).2.1 + 3) from rfl)
      clear R T hb hc hr T0 hr0 hb0 d0 d1 d2 d3
      unfold svR at c1 HFIN HCL
      generalize sumP f m = sm at *
      generalize f m = fm at *
      obtain ⟨fa, fn, fc⟩ := fm
      dsimp only at *
      have hf0 := hf (m * 4)
      clear hf
      go_wp2_with fail
      refine HMK.out.mono ?_
      rintro e w1 ⟨rfl, O1, T1⟩
      obtain ⟨e2, e3, e4⟩ := HCL.out w1 T1
      have e42 := e4 (m * 4 + 2)
      have e43 := e4 (m * 4 + 3)
      have HX := hide (fun y z hy hz => HFIN.out w1 y z hy hz O1 T1)
      clear O1 T1 HFIN HMK c0 c1 HCL e4
      go_wp2
      go_roundw
      case rel => exact ⟨m + 1, by omega, by go_num, by rw [HSU.out]; go_num, (HX.out _ _ (by go_num) (by go_num)).1, (HX.out _ _ (by go_num) (by go_num)).2⟩
      case measure => simp [intOf]; omega
    · have e : Hid (m = n) := by show m = n; omega
      have HX := hide (And.intro R T)
      clear R T
      go_wp2
      go_ret
      refine ⟨ret_int (by rw [e.out]), ?_, HX.out.2⟩
      have R := HX.out.1
      rw [e.out] at R
      refine ⟨fun h0 => ?_, fun i hi => ?_, R.apart, R.hb⟩
      · obtain ⟨g, cs, h1, h2, h3, h4⟩ := R.head h0
        refine ⟨g, cs, h1, h2, h3, fun i hi => ?_⟩
        have := h4 i hi
        simp only [hi, if_true] at this
        exact this
      · have := R.rows i hi
        simp only [hi, if_true] at this
        exact this

set_option maxHeartbeats 2000000 in
theorem markLayout_big (a0 : Option Addr) (n c0 : Nat) (st : Int) (a2 : Option Addr) (sn c2 : Nat) (fl ra : Int) (a5 : Option Addr) (tn c5 : Nat) (k base : Nat) (f : Nat → Rw3) (V : Nat → Int × Int × Int) (X : Nat → List Int) (Z : List Int) (F : Nat → TB) (G : Nat → List Tg) (w : World) (h : Y3 w base a0 n f V X (.slice a2 sn c2) Z a5 tn F G)
    (hn : n ≤ 1048576) (hrp : ∀ i, i < n → (f i).2.1 ≤ 1048576) (hsn : sn ≤ 1048576) (htn : tn ≤ 1048576) (hrt : ∀ i, i < tn → (F i).1.length ≤ 1048576) (hz : k + sumP f n + sn + sumT F tn ≤ 4194304) :
    Calls Tryz.prog 26 #[.agg #[.slice a0 n c0, .int .i64 st, .slice a2 sn c2, .int .i64 fl, .int .i64 ra, .slice a5 tn c5], .int .i64 k] w fun e w' => e = .returned (.int .i64 ((k + sumP f n + sn + sumT F tn : Nat) : Int)) ∧ Y3 w' base a0 n f (mvP k f) (mrkP k f) (.slice a2 sn c2) (marksI (k + sumP f n) sn) a5 tn F (mrkT (k + sumP f n + sn) F) ∧ Turn (Sy a0 n f (.slice a2 sn c2) tn F) w w' := by
  have k0 := Blk.new w #[.slice a0 n c0, .int .i64 st, .slice a2 sn c2, .int .i64 fl, .int .i64 ra, .slice a5 tn c5] 36
  have B0 : Below w.heap.size w (w.alloc (.cells #[.slice a0 n c0, .int .i64 st, .slice a2 sn c2, .int .i64 fl, .int .i64 ra, .slice a5 tn c5] 36)) := (Below.refl _ _).alloc (Nat.le_refl _) _
  have T0 : Turn (Sy a0 n f (.slice a2 sn c2) tn F) w (w.alloc (.cells #[.slice a0 n c0, .int .i64 st, .slice a2 sn c2, .int .i64 fl, .int .i64 ra, .slice a5 tn c5] 36)) := turn_below B0
  have hnS : ¬ Sy a0 n f (.slice a2 sn c2) tn F w.heap.size := fun e => by have := h.lt e; omega
  have Y0 := h.below B0
  have HF := hide (fun (W : World) (hp : Rp W base a0 n f V X) => markPlaceS_big a0 n c0 k base f V X W hp (by omega) hrp (by omega))
  have HT := hide (fun (W : World) (Q : Nat) (hQ : Q + sumT F tn ≤ 4194304) (ht : Rt W base a5 tn F G) => markTargetSS_big a5 tn c5 Q base F G W ht (by omega) hrt hQ)
  generalize sumP f n = sp at *
  generalize sumT F tn = stt at *
  clear h B0
  obtain ⟨q0, q1, q2, q3, q4, q5⟩ := k0.lay
  have HY := hide Y0
  have HTU := hide T0
  clear Y0 T0
  go_enter Tryz.func26, Tryz.ntmps26
  go_wp2_with fail
  refine (HF.out _ HY.out.p).mono ?_
  rintro e w1 ⟨rfl, O1, T1⟩
  have Y1 := HY.out.set_p O1 T1
  have k1 := turn_blk T1 k0 (fun s => hnS (.inl s))
  have TT1 := HTU.out.trans (T1.mono (fun j hj => .inl hj))
  clear HY HTU k0 q0 q1 q2 q3 q4 q5 O1 T1 HF
  obtain ⟨q0, q1, q2, q3, q4, q5⟩ := k1.lay
  go_wp2_with fail
  refine (markIntS_any a2 sn c2 base Z (k + sp) _ Y1.s (by omega) (by omega)).mono ?_
  rintro e w2 ⟨rfl, O2, T2⟩
  have Y2 := Y1.set_s O2 T2
  have k2 := turn_blk T2 k1 (fun s => hnS (.inr (.inl s)))
  have TT2 := TT1.trans (T2.mono (fun j hj => .inr (.inl hj)))
  clear Y1 k1 TT1 O2 T2 q0 q1 q2 q3 q4 q5
  obtain ⟨q0, q1, q2, q3, q4, q5⟩ := k2.lay
  go_wp2_with fail
  refine (HT.out _ (k + sp + sn) (by omega) Y2.t).mono ?_
  rintro e w3 ⟨rfl, O3, T3⟩
  have Y3' := hide (Y2.set_t O3 T3)
  have TT3 := hide (TT2.trans (T3.mono (fun j hj => .inr (.inr hj))))
  clear Y2 k2 TT2 O3 T3 q0 q1 q2 q3 q4 q5
  go_wp2
  go_ret
  exact ⟨by go_num, Y3'.out, TT3.out⟩

/-- how many marks a layout that came in takes -/
theorem sumP_le3 (xs : List PB) : ∀ n, sumP (plF xs) n ≤ 3 * n + upS (fun j => (xs.getD j zPB).1.banks.length) n
  | 0 => by simp [sumP, upS]
  | n + 1 => by
    have := sumP_le3 xs n
    show sumP (plF xs) n + ((xs.getD n zPB).1.banks.length + 3) ≤ 3 * (n + 1) + (upS _ n + (xs.getD n zPB).1.banks.length)
    omega
theorem sumT_le3 (ts : List TB) : ∀ n, sumT (tbF ts) n ≤ 3 * upS (fun j => (ts.getD j zTB).1.length) n
  | 0 => by simp [sumT, upS]
  | n + 1 => by
    have := sumT_le3 ts n
    show sumT (tbF ts) n + 3 * (ts.getD n zTB).1.length ≤ 3 * (upS _ n + (ts.getD n zTB).1.length)
    omega
theorem lySz_eq {L : Lay} {xs xs' : List PB} {ts ts' : List TB} (h1 : xs.map (fun x => x.1) = xs'.map (fun x => x.1)) (h2 : ts.map (fun x => x.1) = ts'.map (fun x => x.1)) : lySz L xs ts = lySz L xs' ts' := by
  have l1 : xs.length = xs'.length := by have := congrArg List.length h1; simpa using this
  have l2 : ts.length = ts'.length := by have := congrArg List.length h2; simpa using this
  have key : ∀ (f g : Nat → Nat) (n : Nat), (∀ i, i < n → f i = g i) → upS f n = upS g n := by
    intro f g n
    induction n with
    | zero => intro _; rfl
    | succ n ih => intro h; show upS f n + f n = upS g n + g n; rw [ih (fun i hi => h i (by omega)), h n (by omega)]
  unfold lySz plSz tsSz
  rw [l1, l2]
  congr 1
  · congr 2
    refine key _ _ _ (fun i hi => ?_)
    have e := congrArg (fun l => l.getD i zPB.1) h1
    try simp only at e
    rw [map_getD _ _ _ zPB _ (by omega), map_getD _ _ _ zPB _ hi] at e
    rw [e]
  · congr 1
    refine key _ _ _ (fun i hi => ?_)
    have e := congrArg (fun l => l.getD i zTB.1) h2
    try simp only at e
    rw [map_getD _ _ _ zTB _ (by omega), map_getD _ _ _ zTB _ hi] at e
    rw [e]
end Go.Proofs.YtngdgogjlpjjpaeGreat
