import Derived.Test.YtngdgogjlpjjpadGreatJ47
namespace Go.Proofs.YtngdgogjlpjjpadGreat
open Go.RowKit
set_option linter.unusedVariables false
set_option linter.unusedSimpArgs false
set_option maxRecDepth 100000

theorem Rt.kept {w w' : World} {base : Nat} {a : Option Addr} {n : Nat} {f : Nat → TB} {X : Nat → List Tg} {S : Nat → Prop} (h : Rt w base a n f X) (t : Turn S w w') (hs : ∀ i, i < n → ∀ k, (svT (f i)).ownBlock = some k → ¬ S k) (hh : n ≠ 0 → ∀ g cs, a = some ⟨g, 0, none⟩ → Blk w g cs 97 → ¬ S g) : Rt w' base a n f X :=
  ⟨fun hn => by obtain ⟨g, cs, ha, h1, h2, h3⟩ := h.head hn; exact ⟨g, cs, ha, h1, turn_blk t h2 (hh hn g cs ha h2), h3⟩, fun i hi => (h.rows i hi).kept t (hs i hi), h.apart⟩
theorem kind_of {w : World} {k : Nat} {t t' : TypeId} (h : ∃ cs, Blk w k cs t) (h' : ∃ cs, Blk w k cs t') (hne : t ≠ t') : False := by
  obtain ⟨c1, k1⟩ := h
  obtain ⟨c2, k2⟩ := h'
  exact hne (blk_kind k1 k2)
/-- the rows of a layout, which lie apart -/
structure Y3 (W : World) (base : Nat) (a0 : Option Addr) (n : Nat) (f : Nat → Rw3) (V : Nat → Int × Int × Int) (X : Nat → List Int) (v2 : Value) (Z : List Int) (a5 : Option Addr) (tn : Nat) (F : Nat → TB) (G : Nat → List Tg) : Prop where
  p : Rp W base a0 n f V X
  s : OI W base v2 Z
  t : Rt W base a5 tn F G
  sp : ∀ k, v2.ownBlock = some k → ¬ Sr f n k
section
variable {W W' : World} {base : Nat} {a0 : Option Addr} {n : Nat} {f : Nat → Rw3} {V V' : Nat → Int × Int × Int} {X X' : Nat → List Int} {v2 : Value} {Z Z' : List Int} {a5 : Option Addr} {tn : Nat} {F : Nat → TB} {G G' : Nat → List Tg}
theorem Y3.ks (h : Y3 W base a0 n f V X v2 Z a5 tn F G) {j : Nat} (hj : v2.ownBlock = some j) : ∃ cs, Blk W j cs 3 := own_kind h.s.1 hj
theorem Y3.kr (h : Y3 W base a0 n f V X v2 Z a5 tn F G) {i : Nat} (hi : i < n) {j : Nat} (hj : (svR (f i)).ownBlock = some j) : ∃ cs, Blk W j cs 3 := own_kind (h.p.rows i hi).1 hj
theorem Y3.kt (h : Y3 W base a0 n f V X v2 Z a5 tn F G) {i : Nat} (hi : i < tn) {j : Nat} (hj : (svT (F i)).ownBlock = some j) : ∃ cs, Blk W j cs 72 := own_kind (h.t.rows i hi) hj
theorem Y3.kp (h : Y3 W base a0 n f V X v2 Z a5 tn F G) {j : Nat} (hj : Sp a0 f n j) : (∃ cs, Blk W j cs 3) ∨ ∃ cs, Blk W j cs 43 := by
  rcases hj with ⟨i, hi, e⟩ | ⟨hn, g, ha, rfl⟩
  · exact .inl (h.kr hi e)
  · obtain ⟨g', cs, ha', _, hb, _⟩ := h.p.head hn
    rw [ha'] at ha
    simp at ha
    subst ha
    exact .inr ⟨cs, hb⟩
theorem Y3.nsp (h : Y3 W base a0 n f V X v2 Z a5 tn F G) {j : Nat} (hj : v2.ownBlock = some j) : ¬ Sp a0 f n j := fun s => by
  rcases s with s | ⟨hn, g, ha, rfl⟩
  · exact h.sp j hj s
  · obtain ⟨g', cs, ha', _, hb, _⟩ := h.p.head hn
    rw [ha'] at ha
    simp at ha
    subst ha
    exact kind_of (h.ks hj) ⟨cs, hb⟩ (by decide)
theorem Y3.set_p (h : Y3 W base a0 n f V X v2 Z a5 tn F G) (O : Rp W' base a0 n f V' X') (t : Turn (Sp a0 f n) W W') : Y3 W' base a0 n f V' X' v2 Z a5 tn F G :=
  ⟨O, turn_oi t h.s (fun k hk s => h.nsp hk s), h.t.kept t (fun i hi k hk s => by rcases h.kp s with q | q <;> exact kind_of q (h.kt hi hk) (by decide)) (fun hn g cs ha hb s => by rcases h.kp s with q | q <;> exact kind_of q ⟨cs, hb⟩ (by decide)), h.sp⟩
theorem Y3.set_s (h : Y3 W base a0 n f V X v2 Z a5 tn F G) (O : OI W' base v2 Z') (t : Turn (fun j => v2.ownBlock = some j) W W') : Y3 W' base a0 n f V X v2 Z' a5 tn F G :=
  ⟨h.p.kept t (fun i hi k hk s => h.sp k s ⟨i, hi, hk⟩) (fun hn g cs ha hb s => kind_of (h.ks s) ⟨cs, hb⟩ (by decide)), O, h.t.kept t (fun i hi k hk s => kind_of (h.ks s) (h.kt hi hk) (by decide)) (fun hn g cs ha hb s => kind_of (h.ks s) ⟨cs, hb⟩ (by decide)), h.sp⟩
theorem Y3.set_t (h : Y3 W base a0 n f V X v2 Z a5 tn F G) (O : Rt W' base a5 tn F G') (t : Turn (St F tn) W W') : Y3 W' base a0 n f V X v2 Z a5 tn F G' :=
  ⟨h.p.kept t (fun i hi k hk s => by obtain ⟨i', hi', e⟩ := s; exact kind_of (h.kt hi' e) (h.kr hi hk) (by decide)) (fun hn g cs ha hb s => by obtain ⟨i', hi', e⟩ := s; exact kind_of (h.kt hi' e) ⟨cs, hb⟩ (by decide)), turn_oi t h.s (fun k hk s => by obtain ⟨i', hi', e⟩ := s; exact kind_of (h.kt hi' e) (h.ks hk) (by decide)), O, h.sp⟩
theorem Y3.below (h : Y3 W base a0 n f V X v2 Z a5 tn F G) (hb : Below W.heap.size W W') : Y3 W' base a0 n f V X v2 Z a5 tn F G :=
  ⟨h.p.kept (S := fun _ => False) (turn_below hb) (fun _ _ _ _ s => s) (fun _ _ _ _ _ s => s), h.s.below hb, h.t.kept (S := fun _ => False) (turn_below hb) (fun _ _ _ _ s => s) (fun _ _ _ _ _ s => s), h.sp⟩
/-- what the marks of a layout write into -/
def Sy (a0 : Option Addr) (n : Nat) (f : Nat → Rw3) (v2 : Value) (tn : Nat) (F : Nat → TB) (j : Nat) : Prop := Sp a0 f n j ∨ v2.ownBlock = some j ∨ St F tn j
theorem Y3.lt (h : Y3 W base a0 n f V X v2 Z a5 tn F G) {j : Nat} (hj : Sy a0 n f v2 tn F j) : base ≤ j ∧ j < W.heap.size := by
  rcases hj with (⟨i, hi, e⟩ | ⟨hn, g, ha, rfl⟩) | hj | ⟨i, hi, e⟩
  · exact (h.p.rows i hi).lt j e
  · obtain ⟨g', cs, ha', _, hb, _⟩ := h.p.head hn
    have := h.p.hb hn _ ha
    rw [ha'] at ha
    simp at ha
    subst ha
    exact ⟨this, hb.lt⟩
  · exact h.s.lt j hj
  · exact (h.t.rows i hi).lt j e
end
theorem Blk.lay {w : World} {b : Nat} {v0 v1 v2 v3 v4 v5 : Value} (h : Blk w b #[v0, v1, v2, v3, v4, v5] 32) : w.cell? ⟨b, 0, none⟩ = some v0 ∧ w.cell? ⟨b, 1, none⟩ = some v1 ∧ w.cell? ⟨b, 2, none⟩ = some v2 ∧ w.cell? ⟨b, 3, none⟩ = some v3 ∧ w.cell? ⟨b, 4, none⟩ = some v4 ∧ w.cell? ⟨b, 5, none⟩ = some v5 := ⟨h.cell 0, h.cell 1, h.cell 2, h.cell 3, h.cell 4, h.cell 5⟩

set_option maxHeartbeats 2000000 in
theorem markLayout_any (a0 : Option Addr) (n c0 : Nat) (st : Int) (a2 : Option Addr) (sn c2 : Nat) (fl ra : Int) (a5 : Option Addr) (tn c5 : Nat) (k base : Nat) (f : Nat → Rw3) (V : Nat → Int × Int × Int) (X : Nat → List Int) (Z : List Int) (F : Nat → TB) (G : Nat → List Tg) (w : World) (h : Y3 w base a0 n f V X (.slice a2 sn c2) Z a5 tn F G)
    (hn : n ≤ 1024) (hs : sumP f n ≤ 65536) (hsn : sn ≤ 1024) (htn : tn ≤ 1024) (hst : sumT F tn ≤ 65536) (hk : k ≤ 65536) :
    Calls Tryz.prog 48 #[.agg #[.slice a0 n c0, .int .i64 st, .slice a2 sn c2, .int .i64 fl, .int .i64 ra, .slice a5 tn c5], .int .i64 k] w fun e w' => e = .returned (.int .i64 ((k + sumP f n + sn + sumT F tn : Nat) : Int)) ∧ Y3 w' base a0 n f (mvP k f) (mrkP k f) (.slice a2 sn c2) (marksI (k + sumP f n) sn) a5 tn F (mrkT (k + sumP f n + sn) F) ∧ Turn (Sy a0 n f (.slice a2 sn c2) tn F) w w' := by
  have k0 := Blk.new w #[.slice a0 n c0, .int .i64 st, .slice a2 sn c2, .int .i64 fl, .int .i64 ra, .slice a5 tn c5] 32
  have B0 : Below w.heap.size w (w.alloc (.cells #[.slice a0 n c0, .int .i64 st, .slice a2 sn c2, .int .i64 fl, .int .i64 ra, .slice a5 tn c5] 32)) := (Below.refl _ _).alloc (Nat.le_refl _) _
  have T0 : Turn (Sy a0 n f (.slice a2 sn c2) tn F) w (w.alloc (.cells #[.slice a0 n c0, .int .i64 st, .slice a2 sn c2, .int .i64 fl, .int .i64 ra, .slice a5 tn c5] 32)) := turn_below B0
  have hnS : ¬ Sy a0 n f (.slice a2 sn c2) tn F w.heap.size := fun e => by have := h.lt e; omega
  have Y0 := h.below B0
  have HF := hide (fun (W : World) (hp : Rp W base a0 n f V X) => markPlaceS_any a0 n c0 k base f V X W hp (by omega) (by omega) (by omega))
  have HT := hide (fun (W : World) (Q : Nat) (hQ : Q ≤ 2097152) (ht : Rt W base a5 tn F G) => markTargetSS_any a5 tn c5 Q base F G W ht (by omega) (by omega) hQ)
  generalize sumP f n = sp at *
  generalize sumT F tn = stt at *
  clear h B0
  obtain ⟨q0, q1, q2, q3, q4, q5⟩ := k0.lay
  have HY := hide Y0
  have HTU := hide T0
  clear Y0 T0
  go_enter Tryz.func48, Tryz.ntmps48
  go_wp2_with fail
  refine (HF.out _ HY.out.p).mono ?_
  rintro e w1 ⟨rfl, O1, T1⟩
  have Y1 := HY.out.set_p O1 T1
  have k1 := turn_blk T1 k0 (fun s => hnS (.inl s))
  have TT1 := HTU.out.trans (T1.mono (fun j hj => .inl hj))
  clear HY HTU k0 q0 q1 q2 q3 q4 q5 O1 T1 HF
  obtain ⟨q0, q1, q2, q3, q4, q5⟩ := k1.lay
  go_wp2_with fail
  refine (markIntS_any a2 sn c2 base Z (k + sp) _ Y1.s (by omega) (by omega)).mono ?_
  rintro e w2 ⟨rfl, O2, T2⟩
  have Y2 := Y1.set_s O2 T2
  have k2 := turn_blk T2 k1 (fun s => hnS (.inr (.inl s)))
  have TT2 := TT1.trans (T2.mono (fun j hj => .inr (.inl hj)))
  clear Y1 k1 TT1 O2 T2 q0 q1 q2 q3 q4 q5
  obtain ⟨q0, q1, q2, q3, q4, q5⟩ := k2.lay
  go_wp2_with fail
  refine (HT.out _ (k + sp + sn) (by omega) Y2.t).mono ?_
  rintro e w3 ⟨rfl, O3, T3⟩
  have Y3' := hide (Y2.set_t O3 T3)
  have TT3 := hide (TT2.trans (T3.mono (fun j hj => .inr (.inr hj))))
  clear Y2 k2 TT2 O3 T3 q0 q1 q2 q3 q4 q5
  go_wp2
  go_ret
  exact ⟨by go_num, Y3'.out, TT3.out⟩

set_option maxHeartbeats 2000000 in
theorem heldLayout_any (a0 : Option Addr) (n c0 : Nat) (st : Int) (a2 : Option Addr) (sn c2 : Nat) (fl ra : Int) (a5 : Option Addr) (tn c5 : Nat) (k base : Nat) (f : Nat → Rw3) (F : Nat → TB) (w : World) (h : Y3 w base a0 n f (mvP k f) (mrkP k f) (.slice a2 sn c2) (marksI (k + sumP f n) sn) a5 tn F (mrkT (k + sumP f n + sn) F))
    (hn : n ≤ 1024) (hs : sumP f n ≤ 65536) (hsn : sn ≤ 1024) (htn : tn ≤ 1024) (hst : sumT F tn ≤ 65536) (hk : k ≤ 65536) :
    Calls Tryz.prog 49 #[.agg #[.slice a0 n c0, .int .i64 st, .slice a2 sn c2, .int .i64 fl, .int .i64 ra, .slice a5 tn c5], .int .i64 k] w fun e w' => e = .returned (.int .i64 ((k + sumP f n + sn + sumT F tn : Nat) : Int)) ∧ Below w.heap.size w w' := by
  have k0 := Blk.new w #[.slice a0 n c0, .int .i64 st, .slice a2 sn c2, .int .i64 fl, .int .i64 ra, .slice a5 tn c5] 32
  have B0 : Below w.heap.size w (w.alloc (.cells #[.slice a0 n c0, .int .i64 st, .slice a2 sn c2, .int .i64 fl, .int .i64 ra, .slice a5 tn c5] 32)) := (Below.refl _ _).alloc (Nat.le_refl _) _
  have Y0 := h.below B0
  have HF := hide (heldPlaceS_any a0 n c0 k base f _ Y0.p (by omega) (by omega) (by omega))
  have HI := hide (heldIntS_any a2 sn c2 (k + sumP f n) _ Y0.s.is (by omega) (by omega))
  have HT := hide (heldTargetSS_any a5 tn c5 (k + sumP f n + sn) base F _ Y0.t (by omega) (by omega) (by omega))
  clear h Y0
  generalize sumP f n = sp at *
  generalize sumT F tn = stt at *
  have HB := hide B0
  clear B0
  obtain ⟨q0, q1, q2, q3, q4, q5⟩ := k0.lay
  have n1 : ¬ (((k + sp : Nat) : Int) < 0) := by omega
  have n2 : ¬ (((k + sp + sn : Nat) : Int) < 0) := by omega
  have n3 : ¬ (((k + sp + sn + stt : Nat) : Int) < 0) := by omega
  go_enter Tryz.func49, Tryz.ntmps49
  go_wp2_with fail
  refine HF.out.mono ?_
  rintro e w1 ⟨rfl, rfl⟩
  go_wp2_with fail
  refine HI.out.mono ?_
  rintro e w1 ⟨rfl, rfl⟩
  go_wp2_with fail
  refine HT.out.mono ?_
  rintro e w1 ⟨rfl, rfl⟩
  go_wp2
  go_ret
  exact ⟨by go_num, HB.out⟩
end Go.Proofs.YtngdgogjlpjjpadGreat

namespace Go.Proofs.YtngdgogjlpjjpadGreat
open Go.RowKit
set_option linter.unusedVariables false
set_option linter.unusedSimpArgs false
set_option maxRecDepth 100000

theorem og_oiL {w : World} {base : Nat} {v : Value} {xs : List Int} (h : OG 3 1 clI w base v xs) (hx : ∀ z ∈ xs, wfi z) : OI w base v xs := by
  unfold OG at h
  rw [flat_clI] at h
  exact ⟨h, hx⟩
def plF (xs : List PB) (i : Nat) : Rw3 := ((xs.getD i zPB).2.1, (xs.getD i zPB).1.banks.length, (xs.getD i zPB).2.2)
def plV (xs : List PB) (i : Nat) : Int × Int × Int := ((xs.getD i zPB).1.text, (xs.getD i zPB).1.data, (xs.getD i zPB).1.size)
def plX (xs : List PB) (i : Nat) : List Int := (xs.getD i zPB).1.banks
theorem plF_sv (xs : List PB) (i : Nat) : svR (plF xs i) = svP (xs.getD i zPB) := rfl
theorem opl_rp {w : World} {base c : Nat} {a : Option Addr} {xs : List PB} (h : OPl w base base (.slice a xs.length c) xs) (hx : ∀ x ∈ xs, ∀ z ∈ x.1.banks, wfi z) : Rp w base a xs.length (plF xs) (plV xs) (plX xs) := by
  have hmem : ∀ i, i < xs.length → xs.getD i zPB ∈ xs := fun i hi => by simp [List.getD_eq_getElem?_getD, hi]
  have rows : ∀ i, i < xs.length → OI w base (svR (plF xs i)) (plX xs i) := fun i hi => og_oiL (h.rows _ (hmem i hi)) (hx _ (hmem i hi))
  have hap : ∀ i j, i < xs.length → j < xs.length → i ≠ j → ∀ k, (svR (plF xs i)).ownBlock = some k → (svR (plF xs j)).ownBlock ≠ some k := fun i j hi hj hij k hk => by
    have hp := List.pairwise_iff_getElem.1 h.apart
    have gi : xs.getD i zPB = xs[i] := by simp [List.getD_eq_getElem?_getD, hi]
    have gj : xs.getD j zPB = xs[j] := by simp [List.getD_eq_getElem?_getD, hj]
    rw [plF_sv] at hk ⊢
    rw [gi] at hk
    rw [gj]
    rcases Nat.lt_or_gt_of_ne hij with h' | h'
    · exact hp i j hi hj h' k hk
    · exact fun e => hp j i hj hi h' k e hk
  obtain ⟨hl, ⟨h0, h1⟩ | ⟨g, cap, cur, hv, hg, hh, h1, h2, h3, h4⟩⟩ := h.head
  · exact ⟨fun hn => absurd h1 hn, rows, hap, fun hn => absurd h1 hn⟩
  · simp at hv
    refine ⟨fun hn => ⟨g, cur, hv.1, fun ⟨i, hi, e⟩ => ?_, hh, fun i hi => ?_⟩, rows, hap, fun hn g' hg' => ?_⟩
    · obtain ⟨c1, k1⟩ := own_kind (rows i hi).1 e
      exact absurd (blk_kind k1 hh) (by decide)
    · have key : ∀ j, j < xs.length * 4 → cur[j]? = (xs.flatMap clP)[j]? := fun j hj => by
        rw [← h4, List.getElem?_take, if_pos (by omega), ← Array.getElem?_toList]
      obtain ⟨e0, e1, e2, e3⟩ := flat_clP xs i hi
      exact ⟨(key _ (by omega)).trans e0, (key _ (by omega)).trans e1, (key _ (by omega)).trans e2, (key _ (by omega)).trans e3⟩
    · rw [hv.1] at hg'
      simp at hg'
      omega
def tbF (ts : List TB) (i : Nat) : TB := ts.getD i zTB
def tbX (ts : List TB) (i : Nat) : List Tg := (ts.getD i zTB).1
theorem otg_rt {w : World} {base c : Nat} {a : Option Addr} {ts : List TB} (h : OTg w base base (.slice a ts.length c) ts) : Rt w base a ts.length (tbF ts) (tbX ts) := by
  have hmem : ∀ i, i < ts.length → ts.getD i zTB ∈ ts := fun i hi => by simp [List.getD_eq_getElem?_getD, hi]
  have rows : ∀ i, i < ts.length → OG 72 3 clG w base (svT (tbF ts i)) (tbX ts i) := fun i hi => h.rows _ (hmem i hi)
  refine ⟨fun hn => ?_, rows, fun i j hi hj hij k hk => ?_⟩
  · obtain ⟨hl, ⟨h0, h1⟩ | ⟨g, cap, cur, hv, hg, hh, h1, h2, h3, h4⟩⟩ := h.head
    · exact absurd h1 hn
    · simp at hv
      refine ⟨g, cur, hv.1, fun ⟨i, hi, e⟩ => ?_, hh, fun i hi => ?_⟩
      · obtain ⟨c1, k1⟩ := own_kind (rows i hi) e
        exact absurd (blk_kind k1 hh) (by decide)
      · have : (cur.toList.take (ts.length * 1))[i]? = (ts.map svT)[i]? := by rw [h4, show ts.flatMap clTB = ts.map svT from flat_one _ _]
        rw [List.getElem?_take, if_pos (by omega)] at this
        rw [← Array.getElem?_toList, this]
        simp [tbF, List.getD_eq_getElem?_getD, hi]
  · have hp := List.pairwise_iff_getElem.1 h.apart
    have gi : ts.getD i zTB = ts[i] := by simp [List.getD_eq_getElem?_getD, hi]
    have gj : ts.getD j zTB = ts[j] := by simp [List.getD_eq_getElem?_getD, hj]
    unfold tbF at hk ⊢
    rw [gi] at hk
    rw [gj]
    rcases Nat.lt_or_gt_of_ne hij with h' | h'
    · exact hp i j hi hj h' k hk
    · exact fun e => hp j i hj hi h' k e hk
/-- how big a layout may be -/
structure LayB (L : Lay) : Prop where
  r : LayR L
  p : L.places.length ≤ 4 ∧ ∀ x ∈ L.places, x.banks.length ≤ 4
  s : L.slots.length ≤ 4
  t : L.targets.length ≤ 4 ∧ ∀ x ∈ L.targets, x.length ≤ 16
theorem sumP_ub (f : Nat → Rw3) (b : Nat) : ∀ n, (∀ i, i < n → (f i).2.1 ≤ b) → sumP f n ≤ n * (b + 3)
  | 0, _ => by simp [sumP]
  | n + 1, h => by
    have h1 := sumP_ub f b n (fun i hi => h i (by omega))
    have h2 := h n (by omega)
    show sumP f n + ((f n).2.1 + 3) ≤ _
    rw [Nat.add_mul]
    omega
theorem sumT_ub (f : Nat → TB) (b : Nat) : ∀ n, (∀ i, i < n → (f i).1.length ≤ b) → sumT f n ≤ n * (3 * b)
  | 0, _ => by simp [sumT]
  | n + 1, h => by
    have h1 := sumT_ub f b n (fun i hi => h i (by omega))
    have h2 := h n (by omega)
    show sumT f n + 3 * (f n).1.length ≤ _
    rw [Nat.add_mul]
    omega
theorem LayO.y3 {W : World} {base : Nat} {L : Lay} {a0 : Option Addr} {c0 : Nat} {xs : List PB} {a2 : Option Addr} {c2 : Nat} {a5 : Option Addr} {c5 : Nat} {ts : List TB} (h : LayO W base L a0 c0 xs a2 c2 a5 c5 ts) (R : LayR L) : Y3 W base a0 xs.length (plF xs) (plV xs) (plX xs) (.slice a2 L.slots.length c2) L.slots a5 ts.length (tbF ts) (tbX ts) where
  p := opl_rp h.p (fun x hx => R.p x.1 (by rw [← h.ps]; exact List.mem_map.2 ⟨x, hx, rfl⟩))
  s := og_oiL h.s R.s
  t := otg_rt h.t
  sp := fun k hk ⟨i, hi, e⟩ => h.sp k hk _ (by simp [List.getD_eq_getElem?_getD, hi]) e
theorem LayO.sizes {W : World} {base : Nat} {L : Lay} {a0 : Option Addr} {c0 : Nat} {xs : List PB} {a2 : Option Addr} {c2 : Nat} {a5 : Option Addr} {c5 : Nat} {ts : List TB} (h : LayO W base L a0 c0 xs a2 c2 a5 c5 ts) (B : LayB L) : xs.length ≤ 1024 ∧ sumP (plF xs) xs.length ≤ 65536 ∧ L.slots.length ≤ 1024 ∧ ts.length ≤ 1024 ∧ sumT (tbF ts) ts.length ≤ 65536 := by
  have hpl : xs.length = L.places.length := by rw [← h.ps, List.length_map]
  have htl : ts.length = L.targets.length := by rw [← h.tt, List.length_map]
  have p1 := B.p.1
  have t1 := B.t.1
  have s1 := B.s
  have h1 := sumP_ub (plF xs) 4 xs.length (fun i hi => B.p.2 _ (by rw [← h.ps]; exact List.mem_map.2 ⟨xs.getD i zPB, by simp [List.getD_eq_getElem?_getD, hi], rfl⟩))
  have h2 := sumT_ub (tbF ts) 16 ts.length (fun i hi => B.t.2 _ (by rw [← h.tt]; exact List.mem_map.2 ⟨ts.getD i zTB, by simp [List.getD_eq_getElem?_getD, hi], rfl⟩))
  have h3 : xs.length * (4 + 3) ≤ 4 * 7 := Nat.mul_le_mul (by omega) (by omega)
  have h4 : ts.length * (3 * 16) ≤ 4 * 48 := Nat.mul_le_mul (by omega) (by omega)
  omega
theorem layB_zero : LayB L0 := ⟨⟨by simp [L0], by simp [L0], by simp [L0]⟩, by simp [L0], by simp [L0], by simp [L0]⟩
theorem lkc_facts {ps : List PMod} {s w k d : Int} (h : lkc ps s w k d = 0) : cfo s w k d = true ∧ 1 ≤ ps.length ∧ ps.length ≤ 4 ∧ vlds ps ∧ imps ps := by
  unfold lkc at h
  split at h
  · rename_i h1; exact absurd h h1
  rename_i h1
  split at h
  · exact absurd h (by decide)
  rename_i h2
  simp at h1
  unfold snd4 at h1
  split at h1
  · exact absurd h1 (by decide)
  rename_i h3
  split at h1
  · exact absurd h1 (by decide)
  rename_i h4
  split at h1
  · exact absurd h1 (by decide)
  rename_i h5
  exact ⟨by simpa using h3, by omega, by omega, Classical.not_not.1 h5, Classical.not_not.1 h2⟩
theorem layB_lay {ps : List PMod} {s w k d : Int} (h : lkc ps s w k d = 0) : LayB (lay ps s w k) := by
  obtain ⟨hc, h1, h2, hv, _⟩ := lkc_facts h
  unfold cfo at hc
  simp at hc
  obtain ⟨c1, c2, c3, c4, c5, c6, _⟩ := hc
  have hmem : ∀ i, i < ps.length → mdoP (ps.getD i zP) = 0 := hv
  refine ⟨⟨fun x hx z hz => ?_, fun z hz => ?_, ?_, ?_, fun x hx => ?_⟩, ⟨?_, fun x hx => ?_⟩, ?_, ⟨?_, fun x hx => ?_⟩⟩
  · simp only [lay, List.mem_map, List.mem_range] at hx
    obtain ⟨i, hi, rfl⟩ := hx
    simp only [plc, List.mem_map, List.mem_range] at hz
    obtain ⟨q, hq, rfl⟩ := hz
    have a1 := Fl_range hv i (by omega)
    have a2 := fsum_range (hmem i hi) q (by omega)
    have a3 := vld_en (hmem i hi)
    have a4 := rnd_range (x := 4 * ((ps.getD i zP).tz.length : Int)) (by omega)
    have a5 : tsz (ps.getD i zP) = rnd (4 * ((ps.getD i zP).tz.length : Int)) := rfl
    rw [a5]
    unfold wfi
    omega
  · simp only [lay, List.mem_map, List.mem_range] at hz
    obtain ⟨i, hi, rfl⟩ := hz
    have a1 := Ra_range hv ps.length (Nat.le_refl _)
    have a4 := rnd_range (x := 4 * w) (by omega)
    have a5 : (0 : Int) ≤ (i : Int) * rnd (4 * w) := Int.mul_nonneg (by omega) (by omega)
    have a6 : (i : Int) * rnd (4 * w) ≤ 4 * 287 := Int.mul_le_mul (by omega) (by omega) (by omega) (by omega)
    unfold slt wfi
    omega
  · simp [lay]; omega
  · simp [lay]; omega
  · simp only [lay, List.mem_map, List.mem_range] at hx
    obtain ⟨i, hi, rfl⟩ := hx
    have a3 := vld_en (hmem i hi)
    simp only [tgs, List.length_map, List.length_range]; omega
  · simp [lay]; omega
  · simp only [lay, List.mem_map, List.mem_range] at hx
    obtain ⟨i, hi, rfl⟩ := hx
    have a3 := vld_en (hmem i hi)
    simp only [plc, List.length_map, List.length_range]; omega
  · simp [lay]; omega
  · simp [lay]; omega
  · simp only [lay, List.mem_map, List.mem_range] at hx
    obtain ⟨i, hi, rfl⟩ := hx
    have a3 := vld_en (hmem i hi)
    simp only [tgs, List.length_map, List.length_range]; omega
theorem layB_lk (ps : List PMod) (s w k d : Int) : LayB (lkL ps s w k d) := by
  unfold lkL
  by_cases h : lkc ps s w k d = 0
  · rw [if_pos h]; exact layB_lay h
  · rw [if_neg h]; exact layB_zero
end Go.Proofs.YtngdgogjlpjjpadGreat

namespace Go.Proofs.YtngdgogjlpjjpadGreat
open Go.RowKit
set_option linter.unusedVariables false
set_option linter.unusedSimpArgs false
set_option maxRecDepth 100000

theorem reb_rows (gs : List Nat) (bl : List Bk) : (reb gs bl).map (fun B => B.2.2.2) = bl.map (fun B => B.2.2.2) := by
  apply List.ext_getElem
  · simp [reb_len]
  · intro i h1 h2
    simp [reb] at h1 ⊢
    simp [h1]
theorem copy_pm {c : Nat} {m m' : Md} {W : World} (h : CopyOf c m m' W) : m'.pm = m.pm := by
  obtain ⟨g1, g2, g3, g5, g6, g7, gs, rfl, _⟩ := h
  simp only [Md.pm, reb_rows]
theorem rowm_pms {W : World} {c n : Nat} {ms ms' : List Md} (h : RowM W c n ms ms') (hl : ms'.length = n) (hl0 : ms.length = n) : pmS ms' = pmS ms := by
  apply List.ext_getElem
  · simp [pmS, hl, hl0]
  · intro i h1 h2
    simp only [pmS, List.length_map] at h1 h2
    have e := copy_pm (h.2.2 i (by omega)).2
    simpa [pmS, List.getD_eq_getElem?_getD, h1, h2] using e
theorem copy_size {c : Nat} {m m' : Md} {W : World} (h : CopyOf c m m' W) (hb : m.bl.length = m.bn) : m'.size = m.size := by
  obtain ⟨g1, g2, g3, g5, g6, g7, gs, rfl, _⟩ := h
  exact reb_size _ _ _ _ _ _ _ _ _ _ _ hb
theorem rowm_msd {W w : World} {c n cap : Nat} {a : Option Addr} {ms ms' : List Md} (h : RowM W c n ms ms') (hl : ms'.length = n) (hm : MS w a n cap ms) (hs : ∀ i, i < n → (ms.getD i zMd).size ≤ 1048576) : MSD W (some ⟨c, 0, none⟩) n n ms' :=
  ⟨h.ms hl hm, fun i hi => md_of_mt (copy_mt (hm.2.2.2.1 i hi) (h.2.2 i (by omega)).2) (by
    have e := copy_size (h.2.2 i (by omega)).2 (hm.2.2.2.1 i hi).b.1
    have := hs i hi
    unfold Md.size at e this
    rw [e]
    exact this)⟩
/-- what the marks of copies write into -/
def Sm (W : World) (c j : Nat) : Prop := c < j ∧ j < W.heap.size ∧ ¬ ∃ cs, Blk W j cs 29
def bnF (m : Md) (j : Nat) : Rw3 := ((m.bl.getD j zB).1, (m.bl.getD j zB).2.1, (m.bl.getD j zB).2.2.1)
theorem SlB.congr {S : Nat → Prop} {w : World} {a : Option Addr} {n : Nat} {f f' : Nat → Rw3} (h : SlB S w a n f) (e : ∀ i, i < n → f' i = f i) : SlB S w a n f' :=
  ⟨fun hn => by obtain ⟨g, o, cs, t, ha, hs, hb, hl⟩ := h.head hn; exact ⟨g, o, cs, t, ha, hs, hb, fun i hi => by rw [e i hi]; exact hl i hi⟩, fun i hi => by rw [e i hi]; exact h.rows i hi⟩
theorem sumB_congr {f f' : Nat → Rw3} : ∀ n, (∀ i, i < n → f' i = f i) → sumB f' n = sumB f n
  | 0, _ => rfl
  | n + 1, e => by show sumB f' n + (f' n).2.1 = sumB f n + (f n).2.1; rw [sumB_congr n (fun i hi => e i (by omega)), e n (by omega)]
theorem sm_of {W : World} {c j : Nat} {cs : Array Value} {t : TypeId} (h1 : c < j) (hb : Blk W j cs t) (hne : t ≠ 29) : Sm W c j := ⟨h1, hb.lt, fun ⟨c2, k2⟩ => hne (blk_kind hb k2)⟩
theorem copy_rws {c : Nat} {m m' : Md} {w W : World} (hm : m.mt w) (h : CopyOf c m m' W) : Rws (Sm W c) W c m' (bnF m') ∧ sumB (bnF m') m'.bn = upS (fun j => (m.bl.getD j zB).2.1) m.bn := by
  obtain ⟨g1, g2, g3, g5, g6, g7, gs, rfl, l1, l2, l3, l4, l5, l6, hg, r1, r2, r3, r5, r6, r7⟩ := h
  have hbl : m.bl.length = m.bn := hm.b.1
  have s1 : Sm W c g1 := sm_of (by omega) (show Blk W g1 _ _ from r1) (by decide)
  have s3 : Sm W c g3 := sm_of (by omega) (show Blk W g3 _ _ from r3) (by decide)
  have s5 : Sm W c g5 := sm_of (by omega) (show Blk W g5 _ _ from r5) (by decide)
  have s6 : Sm W c g6 := sm_of (by omega) (show Blk W g6 _ _ from r6) (by decide)
  have s7 : Sm W c g7 := by obtain ⟨⟨cx, hx, _⟩, _⟩ := r7; exact sm_of (by omega) hx (by decide)
  have s2 : ¬ Sm W c g2 := fun e => by obtain ⟨⟨cur, h2, _⟩, _⟩ := r2; exact e.2.2 ⟨cur, h2⟩
  have sb : ∀ i, i < m.bn → Sm W c (gs.getD i 0) := fun i hi => by
    obtain ⟨q1, q2⟩ := r2.2.1 i (by omega)
    exact sm_of (by omega) (show Blk W (gs.getD i 0) _ _ from q1) (by decide)
  have e : ∀ i, i < m.bn → bnF ⟨m.nm, some ⟨g1, 0, none⟩, m.tn, m.tn, m.tz, some ⟨g2, 0, none⟩, m.bn, m.bn, reb gs m.bl, some ⟨g3, 0, none⟩, m.dn, m.dn, m.dz, m.bss, some ⟨g5, 0, none⟩, m.rn, m.rn, m.rz, some ⟨g6, 0, none⟩, m.im, m.im, m.ss, some ⟨g7, 0, none⟩, m.en, m.en, m.es⟩ i = bankF gs m.bl i := fun i hi => by
    unfold bnF
    rw [reb_at _ _ _ (by omega)]
    rfl
  obtain ⟨t1, t2, t3, t5, t6, t7⟩ := mod_sl hm hg r1 r2 r3 r5 r6 r7 s1 s2 sb s3 s5 s6 s7
  refine ⟨⟨t1, t2.congr e, t3, t5, t6, t7, fun g o hh => ?_⟩, ?_⟩
  · simp at hh; omega
  · rw [sumB_congr _ e, sumB_bank]
theorem rowm_mrs {W w : World} {c n cap : Nat} {a : Option Addr} {ms ms' : List Md} (h : RowM W c n ms ms') (hl : ms'.length = n) (hm : MS w a n cap ms) : Mrs (Sm W c) W c n ms' (fun i => bnF (ms'.getD i zMd)) := by
  obtain ⟨⟨cur, hb, hsz⟩, _, hr⟩ := h
  refine ⟨fun e => by have := e.1; omega, ⟨cur, hb, fun i hi => ?_⟩, fun i hi => (copy_rws (hm.2.2.2.1 i hi) (hr i (by omega)).2).1⟩
  obtain ⟨h0, h1, h2, h3, h4, h5, h6, h7⟩ := (hr i (by omega)).1
  exact ⟨⟨_, (hb.cell _).symm.trans h0⟩, (hb.cell _).symm.trans h1, (hb.cell _).symm.trans h2, (hb.cell _).symm.trans h3, ⟨_, (hb.cell _).symm.trans h4⟩, (hb.cell _).symm.trans h5, (hb.cell _).symm.trans h6, (hb.cell _).symm.trans h7⟩
/-- how many marks copies take -/
theorem rowm_cnt {W w : World} {c n cap : Nat} {a : Option Addr} {ms ms' : List Md} (h : RowM W c n ms ms') (hl : ms'.length = n) (hm : MS w a n cap ms) (hz : n + upS (fun j => (ms.getD j zMd).size) n ≤ 1048576) :
    upS (cntM ms' (fun i => bnF (ms'.getD i zMd))) n ≤ 3145728 ∧ (∀ i, i < n → (ms'.getD i zMd).bn ≤ 1048576) ∧ (∀ i, i < n → cntM ms' (fun i => bnF (ms'.getD i zMd)) i ≤ 4194304 ∧ (ms'.getD i zMd).tn ≤ 1048576 ∧ (ms'.getD i zMd).dn ≤ 1048576 ∧ (ms'.getD i zMd).rn ≤ 1048576 ∧ (ms'.getD i zMd).im ≤ 1048576 ∧ (ms'.getD i zMd).en ≤ 1048576 ∧ sumB (bnF (ms'.getD i zMd)) (ms'.getD i zMd).bn ≤ 1048576) := by
  have key : ∀ i, i < n → cntM ms' (fun i => bnF (ms'.getD i zMd)) i ≤ 2 + 3 * (ms.getD i zMd).size ∧ (ms'.getD i zMd).bn ≤ (ms.getD i zMd).size ∧ (ms'.getD i zMd).tn ≤ (ms.getD i zMd).size ∧ (ms'.getD i zMd).dn ≤ (ms.getD i zMd).size ∧ (ms'.getD i zMd).rn ≤ (ms.getD i zMd).size ∧ (ms'.getD i zMd).im ≤ (ms.getD i zMd).size ∧ (ms'.getD i zMd).en ≤ (ms.getD i zMd).size ∧ sumB (bnF (ms'.getD i zMd)) (ms'.getD i zMd).bn ≤ (ms.getD i zMd).size := fun i hi => by
    have hc := (h.2.2 i (by omega)).2
    have e1 := (copy_rws (hm.2.2.2.1 i hi) hc).2
    have e2 : (ms'.getD i zMd).tn = (ms.getD i zMd).tn ∧ (ms'.getD i zMd).bn = (ms.getD i zMd).bn ∧ (ms'.getD i zMd).dn = (ms.getD i zMd).dn ∧ (ms'.getD i zMd).rn = (ms.getD i zMd).rn ∧ (ms'.getD i zMd).im = (ms.getD i zMd).im ∧ (ms'.getD i zMd).en = (ms.getD i zMd).en := by
      obtain ⟨g1, g2, g3, g5, g6, g7, gs, e, _⟩ := hc
      rw [e]
      exact ⟨rfl, rfl, rfl, rfl, rfl, rfl⟩
    obtain ⟨f1, f2, f3, f4, f5, f6⟩ := e2
    have e3 : (ms.getD i zMd).size = (ms.getD i zMd).nm.size + (ms.getD i zMd).tn + ((ms.getD i zMd).bn + upS (fun j => ((ms.getD i zMd).bl.getD j zB).2.1) (ms.getD i zMd).bn) + (ms.getD i zMd).dn + (ms.getD i zMd).rn + ((ms.getD i zMd).im + upS (fun j => ((ms.getD i zMd).ss.getD j zS).size) (ms.getD i zMd).im) + ((ms.getD i zMd).en + upS (fun j => ((ms.getD i zMd).es.getD j zE).1.size) (ms.getD i zMd).en) := rfl
    unfold cntM
    rw [e1, f1, f2, f3, f4, f5, f6, e3]
    omega
  have hle : ∀ i, i < n → (ms.getD i zMd).size ≤ 1048576 := fun i hi => by have := upS_le (fun j => (ms.getD j zMd).size) n i hi; omega
  refine ⟨?_, fun i hi => by have := key i hi; have := hle i hi; omega, fun i hi => by have := key i hi; have := hle i hi; omega⟩
  have hsum : ∀ q, q ≤ n → upS (cntM ms' (fun i => bnF (ms'.getD i zMd))) q ≤ 2 * q + 3 * upS (fun j => (ms.getD j zMd).size) q := by
    intro q
    induction q with
    | zero => intro _; simp [upS]
    | succ q ih =>
      intro hq
      have h1 := ih (by omega)
      have h2 := (key q (by omega)).1
      show upS _ q + cntM ms' (fun i => bnF (ms'.getD i zMd)) q ≤ 2 * (q + 1) + 3 * (upS _ q + (ms.getD q zMd).size)
      omega
  have := hsum n (Nat.le_refl _)
  omega
theorem LayO.kept {W W' : World} {base : Nat} {L : Lay} {a0 : Option Addr} {c0 : Nat} {xs : List PB} {a2 : Option Addr} {c2 : Nat} {a5 : Option Addr} {c5 : Nat} {ts : List TB} {S : Nat → Prop} (h : LayO W base L a0 c0 xs a2 c2 a5 c5 ts) (t : Turn S W W') (hs : ∀ j, base ≤ j → j < W.heap.size → ¬ S j) : LayO W' base L a0 c0 xs a2 c2 a5 c5 ts where
  p := h.p.kept t (fun k hk => hs k (h.p.lt.1 k hk).1 (h.p.lt.1 k hk).2) (fun x hx k hk => hs k (h.p.lt.2 x hx k hk).1 (h.p.lt.2 x hx k hk).2)
  ps := h.ps
  s := h.s.kept t (fun k hk => hs k (h.s.lt k hk).1 (h.s.lt k hk).2)
  t := h.t.kept t (fun k hk => hs k (h.t.lt.1 k hk).1 (h.t.lt.1 k hk).2) (fun x hx k hk => hs k (h.t.lt.2 x hx k hk).1 (h.t.lt.2 x hx k hk).2)
  tt := h.tt
  sp := h.sp
theorem LayO.below' {W W' : World} {base : Nat} {L : Lay} {a0 : Option Addr} {c0 : Nat} {xs : List PB} {a2 : Option Addr} {c2 : Nat} {a5 : Option Addr} {c5 : Nat} {ts : List TB} (h : LayO W base L a0 c0 xs a2 c2 a5 c5 ts) (hb : Below W.heap.size W W') : LayO W' base L a0 c0 xs a2 c2 a5 c5 ts := h.kept (S := fun _ => False) (turn_below hb) (fun _ _ _ s => s)
theorem LayO.mono {W : World} {base base' : Nat} {L : Lay} {a0 : Option Addr} {c0 : Nat} {xs : List PB} {a2 : Option Addr} {c2 : Nat} {a5 : Option Addr} {c5 : Nat} {ts : List TB} (h : LayO W base L a0 c0 xs a2 c2 a5 c5 ts) (hb : base' ≤ base) : LayO W base' L a0 c0 xs a2 c2 a5 c5 ts := ⟨h.p.mono hb hb, h.ps, h.s.mono hb, h.t.mono hb hb, h.tt, h.sp⟩
end Go.Proofs.YtngdgogjlpjjpadGreat
