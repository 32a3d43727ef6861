import Derived.Test.YtngdgogjlpjjpaeGreatGa25
namespace Go.Proofs.YtngdgogjlpjjpaeGreat
open Go.RowKit
set_option linter.unusedVariables false
set_option linter.unusedSimpArgs false
set_option maxRecDepth 100000

/-- the cells of a module that marks leave as they are -/
def Ar8 (cs : Array Value) (o : Nat) (m : Md) : Prop := (∃ u, cs[o]? = some u) ∧ cs[o + 1]? = some (.slice m.ta m.tn m.tc) ∧ cs[o + 2]? = some (.slice m.ba m.bn m.bc) ∧ cs[o + 3]? = some (.slice m.da m.dn m.dc) ∧ (∃ u, cs[o + 4]? = some u) ∧ cs[o + 5]? = some (.slice m.ra m.rn m.rc) ∧ cs[o + 6]? = some (.slice m.ia m.im m.ic) ∧ cs[o + 7]? = some (.slice m.ea m.en m.ec)
theorem ar_ex {cs : Array Value} {i j : Nat} {v : Value} (h : ∃ u, cs[j]? = some u) : ∃ u, (cs.setIfInBounds i v)[j]? = some u := by
  obtain ⟨u, h⟩ := h
  by_cases e : i = j
  · subst e; exact ⟨v, ar_same h⟩
  · exact ⟨u, ar_other h e⟩
theorem ar8_set {cs : Array Value} {o i j : Nat} {m : Md} {v : Value} (h : Ar8 cs (o * 8) m) (hj : j = 0 ∨ j = 4) : Ar8 (cs.setIfInBounds (i * 8 + j) v) (o * 8) m :=
  ⟨ar_ex h.1, ar_other h.2.1 (by omega), ar_other h.2.2.1 (by omega), ar_other h.2.2.2.1 (by omega), ar_ex h.2.2.2.2.1, ar_other h.2.2.2.2.2.1 (by omega), ar_other h.2.2.2.2.2.2.1 (by omega), ar_other h.2.2.2.2.2.2.2 (by omega)⟩
/-- the rows of a module may be marked -/
structure Rws (S : Nat → Prop) (W : World) (c : Nat) (m : Md) (f : Nat → Rw3) : Prop where
  t : Sl S W m.ta m.tn 1
  b : SlB S W m.ba m.bn f
  d : Sl S W m.da m.dn 1
  r : Sl S W m.ra m.rn 1
  i : Sl S W m.ia m.im 1
  e : Sl S W m.ea m.en 3
  g : ∀ g o, m.ba = some ⟨g, o, none⟩ → g ≠ c
theorem Rws.kept {S : Nat → Prop} {W W' : World} {c : Nat} {m : Md} {f : Nat → Rw3} (h : Rws S W c m f) (k : Mkd S W W') : Rws S W' c m f :=
  ⟨h.t.shp k.shp, h.b.kept k, h.d.shp k.shp, h.r.shp k.shp, h.i.shp k.shp, h.e.shp k.shp, h.g⟩
theorem Rws.set {S : Nat → Prop} {W : World} {c : Nat} {m : Md} {f : Nat → Rw3} (h : Rws S W c m f) (i : Nat) (v : Value) : Rws S (W.setCell ⟨c, i, none⟩ v) c m f :=
  have sh := Shp.set W c i v
  ⟨h.t.shp sh, ⟨fun hn => by obtain ⟨g, o, cs, t, ha, hs, hb, hl⟩ := h.b.head hn; exact ⟨g, o, cs, t, ha, hs, hb.other _ _ (h.g g o ha), hl⟩, fun i hi => (h.b.rows i hi).shp sh⟩, h.d.shp sh, h.r.shp sh, h.i.shp sh, h.e.shp sh, h.g⟩
/-- A ROW OF MODULES THAT MAY BE MARKED -/
structure Mrs (S : Nat → Prop) (W : World) (c n : Nat) (ms : List Md) (F : Nat → Nat → Rw3) : Prop where
  nc : ¬ S c
  head : ∃ cs, Blk W c cs 104 ∧ ∀ i, i < n → Ar8 cs (i * 8) (ms.getD i zMd)
  rows : ∀ i, i < n → Rws S W c (ms.getD i zMd) (F i)
theorem Mrs.kept {S : Nat → Prop} {W W' : World} {c n : Nat} {ms : List Md} {F : Nat → Nat → Rw3} (h : Mrs S W c n ms F) (k : Mkd S W W') : Mrs S W' c n ms F :=
  ⟨h.nc, by obtain ⟨cs, hb, hc⟩ := h.head; exact ⟨cs, turn_blk k.turn hb h.nc, hc⟩, fun i hi => (h.rows i hi).kept k⟩
theorem Mrs.set {S : Nat → Prop} {W : World} {c n : Nat} {ms : List Md} {F : Nat → Nat → Rw3} (h : Mrs S W c n ms F) (i j : Nat) (hj : j = 0 ∨ j = 4) (v : Value) : Mrs S (W.setCell ⟨c, i * 8 + j, none⟩ v) c n ms F :=
  ⟨h.nc, by obtain ⟨cs, hb, hc⟩ := h.head; exact ⟨_, hb.set _ _, fun o ho => ar8_set (hc o ho) hj⟩, fun o ho => (h.rows o ho).set _ _⟩
theorem Mrs.at {S : Nat → Prop} {W : World} {c n : Nat} {ms : List Md} {F : Nat → Nat → Rw3} (h : Mrs S W c n ms F) (i : Nat) (hi : i < n) : (∃ u, W.cell? ⟨c, i * 8, none⟩ = some u) ∧ W.cell? ⟨c, i * 8 + 1, none⟩ = some (.slice (ms.getD i zMd).ta (ms.getD i zMd).tn (ms.getD i zMd).tc) ∧ W.cell? ⟨c, i * 8 + 2, none⟩ = some (.slice (ms.getD i zMd).ba (ms.getD i zMd).bn (ms.getD i zMd).bc) ∧ W.cell? ⟨c, i * 8 + 3, none⟩ = some (.slice (ms.getD i zMd).da (ms.getD i zMd).dn (ms.getD i zMd).dc) ∧ (∃ u, W.cell? ⟨c, i * 8 + 4, none⟩ = some u) ∧ W.cell? ⟨c, i * 8 + 5, none⟩ = some (.slice (ms.getD i zMd).ra (ms.getD i zMd).rn (ms.getD i zMd).rc) ∧ W.cell? ⟨c, i * 8 + 6, none⟩ = some (.slice (ms.getD i zMd).ia (ms.getD i zMd).im (ms.getD i zMd).ic) ∧ W.cell? ⟨c, i * 8 + 7, none⟩ = some (.slice (ms.getD i zMd).ea (ms.getD i zMd).en (ms.getD i zMd).ec) ∧ ∀ j, W.frozen? ⟨c, j, none⟩ = false := by
  obtain ⟨cs, hb, hc⟩ := h.head
  obtain ⟨⟨u, h0⟩, h1, h2, h3, ⟨u4, h4⟩, h5, h6, h7⟩ := hc i hi
  exact ⟨⟨u, (hb.cell _).trans h0⟩, (hb.cell _).trans h1, (hb.cell _).trans h2, (hb.cell _).trans h3, ⟨u4, (hb.cell _).trans h4⟩, (hb.cell _).trans h5, (hb.cell _).trans h6, (hb.cell _).trans h7, fun j => hb.frozen j⟩
/-- how many marks a module takes -/
def cntM (ms : List Md) (F : Nat → Nat → Rw3) (i : Nat) : Nat := 2 + (ms.getD i zMd).tn + sumB (F i) (ms.getD i zMd).bn + (ms.getD i zMd).dn + (ms.getD i zMd).rn + (ms.getD i zMd).im + 3 * (ms.getD i zMd).en
theorem upS_lt (f : Nat → Nat) : ∀ n i, i < n → f i + upS f i ≤ upS f n
  | 0, i, h => by omega
  | n + 1, i, h => by
    show _ ≤ upS f n + f n
    by_cases e : i = n
    · subst e; omega
    · have := upS_lt f n i (by omega); omega

set_option maxHeartbeats 4000000 in
theorem markModuleS_sl (S : Nat → Prop) (c n cap k : Nat) (ms : List Md) (F : Nat → Nat → Rw3) (w : World) (h : Mrs S w c n ms F) (hz : k + upS (cntM ms F) n ≤ 4194304) (hb : ∀ i, i < n → (ms.getD i zMd).bn ≤ 1048576) (hy : ∀ i, i < n → cntM ms F i ≤ 4194304 ∧ (ms.getD i zMd).tn ≤ 1048576 ∧ (ms.getD i zMd).dn ≤ 1048576 ∧ (ms.getD i zMd).rn ≤ 1048576 ∧ (ms.getD i zMd).im ≤ 1048576 ∧ (ms.getD i zMd).en ≤ 1048576 ∧ sumB (F i) (ms.getD i zMd).bn ≤ 1048576) (hn : n ≤ 1048576) :
    Calls Tryz.prog 25 #[.slice (some ⟨c, 0, none⟩) n cap, .int .i64 k] w fun e w' => e = .returned (.int .i64 ((k + upS (cntM ms F) n : Nat) : Int)) ∧ Mkd (fun j => S j ∨ j = c) w w' := by
  have HH := hide h
  clear h
  go_enter Tryz.func25, Tryz.ntmps25
  go_wp2
  go_loopw [1, 5] (fun x i wr => ∃ m : Nat, m ≤ n ∧ i = .int .i64 m ∧ x = .int .i64 ((k + upS (cntM ms F) m : Nat) : Int) ∧ Mrs S wr c n ms F ∧ Mkd (fun j => S j ∨ j = c) w wr) (fun _ i _ => n - (intOf i).toNat)
  case atStart => exact ⟨0, Nat.zero_le _, rfl, rfl, HH.out, Mkd.refl _ _⟩
  case round =>
    obtain ⟨m, hm, rfl, rfl, R, M⟩ := hrel
    by_cases hlt : m < n
    · have hlt' : (m : Int) < (n : Int) := by omega
      obtain ⟨y0, y1, y2, y3, y4, y5, y6⟩ := hy m hlt
      have y7 := hb m hlt
      have hle := upS_lt (cntM ms F) n m hlt
      have HSU := hide (show upS (cntM ms F) (m + 1) = upS (cntM ms F) m + cntM ms F m from rfl)
      have HC := hide (show cntM ms F m = 2 + (ms.getD m zMd).tn + sumB (F m) (ms.getD m zMd).bn + (ms.getD m zMd).dn + (ms.getD m zMd).rn + (ms.getD m zMd).im + 3 * (ms.getD m zMd).en from rfl)
      have hC := HC.out
      have HM1 := hide (fun (W : World) (K : Nat) (hK : K ≤ 4194304) (r : Mrs S W c n ms F) => markIntS_sl S _ _ (ms.getD m zMd).tc K W (r.rows m hlt).t y1 (by omega))
      have HM2 := hide (fun (W : World) (K : Nat) (hK : K ≤ 4194304) (r : Mrs S W c n ms F) => markIntSS_sl S _ _ (ms.getD m zMd).bc K (F m) W (r.rows m hlt).b y7 y6 hK)
      have HM3 := hide (fun (W : World) (K : Nat) (hK : K ≤ 4194304) (r : Mrs S W c n ms F) => markByteS_sl S _ _ (ms.getD m zMd).dc K W (r.rows m hlt).d y2 (by omega))
      have HM5 := hide (fun (W : World) (K : Nat) (hK : K ≤ 4194304) (r : Mrs S W c n ms F) => markIntS_sl S _ _ (ms.getD m zMd).rc K W (r.rows m hlt).r y3 (by omega))
      have HM6 := hide (fun (W : World) (K : Nat) (hK : K ≤ 4194304) (r : Mrs S W c n ms F) => markStringS_sl S _ _ (ms.getD m zMd).ic K W (r.rows m hlt).i y4 (by omega))
      have HM7 := hide (fun (W : World) (K : Nat) (hK : K ≤ 4194304) (r : Mrs S W c n ms F) => markExportS_sl S _ _ (ms.getD m zMd).ec K W (r.rows m hlt).e y5 hK)
      have HAT := hide (fun (W : World) (r : Mrs S W c n ms F) => r.at m hlt)
      clear HC
      generalize upS (cntM ms F) m = sm at *
      generalize sumB (F m) (ms.getD m zMd).bn = sb at *
      generalize cntM ms F m = cm at *
      generalize ms.getD m zMd = q at *
      obtain ⟨nm, ta, tn, tc, tz, ba, bn, bc, bl, da, dn, dc, dz, bss, ra, rn, rc, rz, ia, im, ic, ss, ea, en, ec, es⟩ := q
      dsimp only at *
      have HR := hide R
      clear R
      have HM := hide M
      clear M
      go_wp2_with fail
      refine (markText_any (k + sm) wr (by omega)).mono ?_
      rintro e w1 ⟨s, rfl, hs, hb1⟩
      have R1 := HR.out.kept (Mkd.below hb1)
      have M1 := HM.out.trans (Mkd.below hb1)
      clear HR HM hb1
      obtain ⟨⟨u0, p0⟩, p1, p2, p3, ⟨u4, p4⟩, p5, p6, p7, pf⟩ := HAT.out _ R1
      have f0 := pf (m * 8)
      have R2 := R1.set m 0 (.inl rfl) (.string s)
      simp only [Nat.add_zero] at R2
      have M2 := M1.set c (m * 8) (.string s) (.inr rfl)
      clear R1 M1 p1 p2 p3 p4 p5 p6 p7 pf
      obtain ⟨_, q1, _⟩ := HAT.out _ R2
      go_wp2_with fail
      refine (HM1.out _ (k + sm + 1) (by omega) R2).mono ?_
      rintro e w2 ⟨rfl, N⟩
      have R3 := R2.kept N
      have M3 := M2.trans (N.mono (fun j hj => .inl hj))
      clear R2 M2 N q1 p0 f0
      obtain ⟨_, _, q2, _⟩ := HAT.out _ R3
      go_wp2_with fail
      refine (HM2.out _ (k + sm + 1 + tn) (by omega) R3).mono ?_
      rintro e w3 ⟨rfl, N⟩
      have R4 := R3.kept N
      have M4 := M3.trans (N.mono (fun j hj => .inl hj))
      clear R3 M3 N q2
      obtain ⟨_, _, _, q3, _⟩ := HAT.out _ R4
      go_wp2_with fail
      refine (HM3.out _ (k + sm + 1 + tn + sb) (by omega) R4).mono ?_
      rintro e w4 ⟨rfl, N⟩
      have R5 := R4.kept N
      have M5 := M4.trans (N.mono (fun j hj => .inl hj))
      clear R4 M4 N q3
      obtain ⟨_, _, _, _, ⟨u4, q4⟩, _, _, _, qf⟩ := HAT.out _ R5
      have f4 := qf (m * 8 + 4)
      have R6 := R5.set m 4 (.inr rfl) (.int .i64 ((k + sm + 1 + tn + sb + dn : Nat) : Int))
      have M6 := M5.set c (m * 8 + 4) (.int .i64 ((k + sm + 1 + tn + sb + dn : Nat) : Int)) (.inr rfl)
      clear R5 M5 qf
      obtain ⟨_, _, _, _, _, q5, _⟩ := HAT.out _ R6
      go_wp2_with fail
      refine (HM5.out _ (k + sm + 1 + tn + sb + dn + 1) (by omega) R6).mono ?_
      rintro e w5 ⟨rfl, N⟩
      have R7 := R6.kept N
      have M7 := M6.trans (N.mono (fun j hj => .inl hj))
      clear R6 M6 N q5 q4 f4
      obtain ⟨_, _, _, _, _, _, q6, _⟩ := HAT.out _ R7
      go_wp2_with fail
      refine (HM6.out _ (k + sm + 1 + tn + sb + dn + 1 + rn) (by omega) R7).mono ?_
      rintro e w6 ⟨rfl, N⟩
      have R8 := R7.kept N
      have M8 := M7.trans (N.mono (fun j hj => .inl hj))
      clear R7 M7 N q6
      obtain ⟨_, _, _, _, _, _, _, q7, _⟩ := HAT.out _ R8
      go_wp2_with fail
      refine (HM7.out _ (k + sm + 1 + tn + sb + dn + 1 + rn + im) (by omega) R8).mono ?_
      rintro e w7 ⟨rfl, N⟩
      have R9 := hide (R8.kept N)
      have M9 := hide (M8.trans (N.mono (fun j hj => .inl hj)))
      clear R8 M8 N q7
      go_wp2
      go_roundw
      case rel => exact ⟨m + 1, by omega, by go_num, by rw [HSU.out]; go_num, R9.out, M9.out⟩
      case measure => simp [intOf]; omega
    · have e : Hid (m = n) := by show m = n; omega
      have HX := hide M
      clear R M
      go_wp2
      go_ret
      exact ⟨ret_int (by rw [e.out]), HX.out⟩
end Go.Proofs.YtngdgogjlpjjpaeGreat

namespace Go.Proofs.YtngdgogjlpjjpaeGreat
open Go.RowKit
set_option linter.unusedVariables false
set_option linter.unusedSimpArgs false
set_option maxRecDepth 100000

theorem Rt.kept {w w' : World} {base : Nat} {a : Option Addr} {n : Nat} {f : Nat → TB} {X : Nat → List Tg} {S : Nat → Prop} (h : Rt w base a n f X) (t : Turn S w w') (hs : ∀ i, i < n → ∀ k, (svT (f i)).ownBlock = some k → ¬ S k) (hh : n ≠ 0 → ∀ g cs, a = some ⟨g, 0, none⟩ → Blk w g cs 189 → ¬ S g) : Rt w' base a n f X :=
  ⟨fun hn => by obtain ⟨g, cs, ha, h1, h2, h3⟩ := h.head hn; exact ⟨g, cs, ha, h1, turn_blk t h2 (hh hn g cs ha h2), h3⟩, fun i hi => (h.rows i hi).kept t (hs i hi), h.apart⟩
theorem kind_of {w : World} {k : Nat} {t t' : TypeId} (h : ∃ cs, Blk w k cs t) (h' : ∃ cs, Blk w k cs t') (hne : t ≠ t') : False := by
  obtain ⟨c1, k1⟩ := h
  obtain ⟨c2, k2⟩ := h'
  exact hne (blk_kind k1 k2)
/-- the rows of a layout, which lie apart -/
structure Y3 (W : World) (base : Nat) (a0 : Option Addr) (n : Nat) (f : Nat → Rw3) (V : Nat → Int × Int × Int) (X : Nat → List Int) (v2 : Value) (Z : List Int) (a5 : Option Addr) (tn : Nat) (F : Nat → TB) (G : Nat → List Tg) : Prop where
  p : Rp W base a0 n f V X
  s : OI W base v2 Z
  t : Rt W base a5 tn F G
  sp : ∀ k, v2.ownBlock = some k → ¬ Sr f n k
section
variable {W W' : World} {base : Nat} {a0 : Option Addr} {n : Nat} {f : Nat → Rw3} {V V' : Nat → Int × Int × Int} {X X' : Nat → List Int} {v2 : Value} {Z Z' : List Int} {a5 : Option Addr} {tn : Nat} {F : Nat → TB} {G G' : Nat → List Tg}
theorem Y3.ks (h : Y3 W base a0 n f V X v2 Z a5 tn F G) {j : Nat} (hj : v2.ownBlock = some j) : ∃ cs, Blk W j cs 3 := own_kind h.s.1 hj
theorem Y3.kr (h : Y3 W base a0 n f V X v2 Z a5 tn F G) {i : Nat} (hi : i < n) {j : Nat} (hj : (svR (f i)).ownBlock = some j) : ∃ cs, Blk W j cs 3 := own_kind (h.p.rows i hi).1 hj
theorem Y3.kt (h : Y3 W base a0 n f V X v2 Z a5 tn F G) {i : Nat} (hi : i < tn) {j : Nat} (hj : (svT (F i)).ownBlock = some j) : ∃ cs, Blk W j cs 71 := own_kind (h.t.rows i hi) hj
theorem Y3.kp (h : Y3 W base a0 n f V X v2 Z a5 tn F G) {j : Nat} (hj : Sp a0 f n j) : (∃ cs, Blk W j cs 3) ∨ ∃ cs, Blk W j cs 138 := by
  rcases hj with ⟨i, hi, e⟩ | ⟨hn, g, ha, rfl⟩
  · exact .inl (h.kr hi e)
  · obtain ⟨g', cs, ha', _, hb, _⟩ := h.p.head hn
    rw [ha'] at ha
    simp at ha
    subst ha
    exact .inr ⟨cs, hb⟩
theorem Y3.nsp (h : Y3 W base a0 n f V X v2 Z a5 tn F G) {j : Nat} (hj : v2.ownBlock = some j) : ¬ Sp a0 f n j := fun s => by
  rcases s with s | ⟨hn, g, ha, rfl⟩
  · exact h.sp j hj s
  · obtain ⟨g', cs, ha', _, hb, _⟩ := h.p.head hn
    rw [ha'] at ha
    simp at ha
    subst ha
    exact kind_of (h.ks hj) ⟨cs, hb⟩ (by decide)
theorem Y3.set_p (h : Y3 W base a0 n f V X v2 Z a5 tn F G) (O : Rp W' base a0 n f V' X') (t : Turn (Sp a0 f n) W W') : Y3 W' base a0 n f V' X' v2 Z a5 tn F G :=
  ⟨O, turn_oi t h.s (fun k hk s => h.nsp hk s), h.t.kept t (fun i hi k hk s => by rcases h.kp s with q | q <;> exact kind_of q (h.kt hi hk) (by decide)) (fun hn g cs ha hb s => by rcases h.kp s with q | q <;> exact kind_of q ⟨cs, hb⟩ (by decide)), h.sp⟩
theorem Y3.set_s (h : Y3 W base a0 n f V X v2 Z a5 tn F G) (O : OI W' base v2 Z') (t : Turn (fun j => v2.ownBlock = some j) W W') : Y3 W' base a0 n f V X v2 Z' a5 tn F G :=
  ⟨h.p.kept t (fun i hi k hk s => h.sp k s ⟨i, hi, hk⟩) (fun hn g cs ha hb s => kind_of (h.ks s) ⟨cs, hb⟩ (by decide)), O, h.t.kept t (fun i hi k hk s => kind_of (h.ks s) (h.kt hi hk) (by decide)) (fun hn g cs ha hb s => kind_of (h.ks s) ⟨cs, hb⟩ (by decide)), h.sp⟩
theorem Y3.set_t (h : Y3 W base a0 n f V X v2 Z a5 tn F G) (O : Rt W' base a5 tn F G') (t : Turn (St F tn) W W') : Y3 W' base a0 n f V X v2 Z a5 tn F G' :=
  ⟨h.p.kept t (fun i hi k hk s => by obtain ⟨i', hi', e⟩ := s; exact kind_of (h.kt hi' e) (h.kr hi hk) (by decide)) (fun hn g cs ha hb s => by obtain ⟨i', hi', e⟩ := s; exact kind_of (h.kt hi' e) ⟨cs, hb⟩ (by decide)), turn_oi t h.s (fun k hk s => by obtain ⟨i', hi', e⟩ := s; exact kind_of (h.kt hi' e) (h.ks hk) (by decide)), O, h.sp⟩
theorem Y3.below (h : Y3 W base a0 n f V X v2 Z a5 tn F G) (hb : Below W.heap.size W W') : Y3 W' base a0 n f V X v2 Z a5 tn F G :=
  ⟨h.p.kept (S := fun _ => False) (turn_below hb) (fun _ _ _ _ s => s) (fun _ _ _ _ _ s => s), h.s.below hb, h.t.kept (S := fun _ => False) (turn_below hb) (fun _ _ _ _ s => s) (fun _ _ _ _ _ s => s), h.sp⟩
/-- what the marks of a layout write into -/
def Sy (a0 : Option Addr) (n : Nat) (f : Nat → Rw3) (v2 : Value) (tn : Nat) (F : Nat → TB) (j : Nat) : Prop := Sp a0 f n j ∨ v2.ownBlock = some j ∨ St F tn j
theorem Y3.lt (h : Y3 W base a0 n f V X v2 Z a5 tn F G) {j : Nat} (hj : Sy a0 n f v2 tn F j) : base ≤ j ∧ j < W.heap.size := by
  rcases hj with (⟨i, hi, e⟩ | ⟨hn, g, ha, rfl⟩) | hj | ⟨i, hi, e⟩
  · exact (h.p.rows i hi).lt j e
  · obtain ⟨g', cs, ha', _, hb, _⟩ := h.p.head hn
    have := h.p.hb hn _ ha
    rw [ha'] at ha
    simp at ha
    subst ha
    exact ⟨this, hb.lt⟩
  · exact h.s.lt j hj
  · exact (h.t.rows i hi).lt j e
end
theorem Blk.lay {w : World} {b : Nat} {v0 v1 v2 v3 v4 v5 : Value} (h : Blk w b #[v0, v1, v2, v3, v4, v5] 36) : w.cell? ⟨b, 0, none⟩ = some v0 ∧ w.cell? ⟨b, 1, none⟩ = some v1 ∧ w.cell? ⟨b, 2, none⟩ = some v2 ∧ w.cell? ⟨b, 3, none⟩ = some v3 ∧ w.cell? ⟨b, 4, none⟩ = some v4 ∧ w.cell? ⟨b, 5, none⟩ = some v5 := ⟨h.cell 0, h.cell 1, h.cell 2, h.cell 3, h.cell 4, h.cell 5⟩

set_option maxHeartbeats 2000000 in
theorem markLayout_any (a0 : Option Addr) (n c0 : Nat) (st : Int) (a2 : Option Addr) (sn c2 : Nat) (fl ra : Int) (a5 : Option Addr) (tn c5 : Nat) (k base : Nat) (f : Nat → Rw3) (V : Nat → Int × Int × Int) (X : Nat → List Int) (Z : List Int) (F : Nat → TB) (G : Nat → List Tg) (w : World) (h : Y3 w base a0 n f V X (.slice a2 sn c2) Z a5 tn F G)
    (hn : n ≤ 1024) (hs : sumP f n ≤ 65536) (hsn : sn ≤ 1024) (htn : tn ≤ 1024) (hst : sumT F tn ≤ 65536) (hk : k ≤ 65536) :
    Calls Tryz.prog 26 #[.agg #[.slice a0 n c0, .int .i64 st, .slice a2 sn c2, .int .i64 fl, .int .i64 ra, .slice a5 tn c5], .int .i64 k] w fun e w' => e = .returned (.int .i64 ((k + sumP f n + sn + sumT F tn : Nat) : Int)) ∧ Y3 w' base a0 n f (mvP k f) (mrkP k f) (.slice a2 sn c2) (marksI (k + sumP f n) sn) a5 tn F (mrkT (k + sumP f n + sn) F) ∧ Turn (Sy a0 n f (.slice a2 sn c2) tn F) w w' := by
  have k0 := Blk.new w #[.slice a0 n c0, .int .i64 st, .slice a2 sn c2, .int .i64 fl, .int .i64 ra, .slice a5 tn c5] 36
  have B0 : Below w.heap.size w (w.alloc (.cells #[.slice a0 n c0, .int .i64 st, .slice a2 sn c2, .int .i64 fl, .int .i64 ra, .slice a5 tn c5] 36)) := (Below.refl _ _).alloc (Nat.le_refl _) _
  have T0 : Turn (Sy a0 n f (.slice a2 sn c2) tn F) w (w.alloc (.cells #[.slice a0 n c0, .int .i64 st, .slice a2 sn c2, .int .i64 fl, .int .i64 ra, .slice a5 tn c5] 36)) := turn_below B0
  have hnS : ¬ Sy a0 n f (.slice a2 sn c2) tn F w.heap.size := fun e => by have := h.lt e; omega
  have Y0 := h.below B0
  have HF := hide (fun (W : World) (hp : Rp W base a0 n f V X) => markPlaceS_any a0 n c0 k base f V X W hp (by omega) (by omega) (by omega))
  have HT := hide (fun (W : World) (Q : Nat) (hQ : Q ≤ 2097152) (ht : Rt W base a5 tn F G) => markTargetSS_any a5 tn c5 Q base F G W ht (by omega) (by omega) hQ)
  generalize sumP f n = sp at *
  generalize sumT F tn = stt at *
  clear h B0
  obtain ⟨q0, q1, q2, q3, q4, q5⟩ := k0.lay
  have HY := hide Y0
  have HTU := hide T0
  clear Y0 T0
  go_enter Tryz.func26, Tryz.ntmps26
  go_wp2_with fail
  refine (HF.out _ HY.out.p).mono ?_
  rintro e w1 ⟨rfl, O1, T1⟩
  have Y1 := HY.out.set_p O1 T1
  have k1 := turn_blk T1 k0 (fun s => hnS (.inl s))
  have TT1 := HTU.out.trans (T1.mono (fun j hj => .inl hj))
  clear HY HTU k0 q0 q1 q2 q3 q4 q5 O1 T1 HF
  obtain ⟨q0, q1, q2, q3, q4, q5⟩ := k1.lay
  go_wp2_with fail
  refine (markIntS_any a2 sn c2 base Z (k + sp) _ Y1.s (by omega) (by omega)).mono ?_
  rintro e w2 ⟨rfl, O2, T2⟩
  have Y2 := Y1.set_s O2 T2
  have k2 := turn_blk T2 k1 (fun s => hnS (.inr (.inl s)))
  have TT2 := TT1.trans (T2.mono (fun j hj => .inr (.inl hj)))
  clear Y1 k1 TT1 O2 T2 q0 q1 q2 q3 q4 q5
  obtain ⟨q0, q1, q2, q3, q4, q5⟩ := k2.lay
  go_wp2_with fail
  refine (HT.out _ (k + sp + sn) (by omega) Y2.t).mono ?_
  rintro e w3 ⟨rfl, O3, T3⟩
  have Y3' := hide (Y2.set_t O3 T3)
  have TT3 := hide (TT2.trans (T3.mono (fun j hj => .inr (.inr hj))))
  clear Y2 k2 TT2 O3 T3 q0 q1 q2 q3 q4 q5
  go_wp2
  go_ret
  exact ⟨by go_num, Y3'.out, TT3.out⟩

end Go.Proofs.YtngdgogjlpjjpaeGreat

namespace Go.Proofs.YtngdgogjlpjjpaeGreat
open Go.RowKit
set_option linter.unusedVariables false
set_option linter.unusedSimpArgs false
set_option maxRecDepth 100000

theorem og_oiL {w : World} {base : Nat} {v : Value} {xs : List Int} (h : OG 3 1 clI w base v xs) (hx : ∀ z ∈ xs, wfi z) : OI w base v xs := by
  unfold OG at h
  rw [flat_clI] at h
  exact ⟨h, hx⟩
def plF (xs : List PB) (i : Nat) : Rw3 := ((xs.getD i zPB).2.1, (xs.getD i zPB).1.banks.length, (xs.getD i zPB).2.2)
def plV (xs : List PB) (i : Nat) : Int × Int × Int := ((xs.getD i zPB).1.text, (xs.getD i zPB).1.data, (xs.getD i zPB).1.size)
def plX (xs : List PB) (i : Nat) : List Int := (xs.getD i zPB).1.banks
theorem plF_sv (xs : List PB) (i : Nat) : svR (plF xs i) = svP (xs.getD i zPB) := rfl
theorem opl_rp {w : World} {base c : Nat} {a : Option Addr} {xs : List PB} (h : OPl w base base (.slice a xs.length c) xs) (hx : ∀ x ∈ xs, ∀ z ∈ x.1.banks, wfi z) : Rp w base a xs.length (plF xs) (plV xs) (plX xs) := by
  have hmem : ∀ i, i < xs.length → xs.getD i zPB ∈ xs := fun i hi => by simp [List.getD_eq_getElem?_getD, hi]
  have rows : ∀ i, i < xs.length → OI w base (svR (plF xs i)) (plX xs i) := fun i hi => og_oiL (h.rows _ (hmem i hi)) (hx _ (hmem i hi))
  have hap : ∀ i j, i < xs.length → j < xs.length → i ≠ j → ∀ k, (svR (plF xs i)).ownBlock = some k → (svR (plF xs j)).ownBlock ≠ some k := fun i j hi hj hij k hk => by
    have hp := List.pairwise_iff_getElem.1 h.apart
    have gi : xs.getD i zPB = xs[i] := by simp [List.getD_eq_getElem?_getD, hi]
    have gj : xs.getD j zPB = xs[j] := by simp [List.getD_eq_getElem?_getD, hj]
    rw [plF_sv] at hk ⊢
    rw [gi] at hk
    rw [gj]
    rcases Nat.lt_or_gt_of_ne hij with h' | h'
    · exact hp i j hi hj h' k hk
    · exact fun e => hp j i hj hi h' k e hk
  obtain ⟨hl, ⟨h0, h1⟩ | ⟨g, cap, cur, hv, hg, hh, h1, h2, h3, h4⟩⟩ := h.head
  · exact ⟨fun hn => absurd h1 hn, rows, hap, fun hn => absurd h1 hn⟩
  · simp at hv
    refine ⟨fun hn => ⟨g, cur, hv.1, fun ⟨i, hi, e⟩ => ?_, hh, fun i hi => ?_⟩, rows, hap, fun hn g' hg' => ?_⟩
    · obtain ⟨c1, k1⟩ := own_kind (rows i hi).1 e
      exact absurd (blk_kind k1 hh) (by decide)
    · have key : ∀ j, j < xs.length * 4 → cur[j]? = (xs.flatMap clP)[j]? := fun j hj => by
        rw [← h4, List.getElem?_take, if_pos (by omega), ← Array.getElem?_toList]
      obtain ⟨e0, e1, e2, e3⟩ := flat_clP xs i hi
      exact ⟨(key _ (by omega)).trans e0, (key _ (by omega)).trans e1, (key _ (by omega)).trans e2, (key _ (by omega)).trans e3⟩
    · rw [hv.1] at hg'
      simp at hg'
      omega
def tbF (ts : List TB) (i : Nat) : TB := ts.getD i zTB
def tbX (ts : List TB) (i : Nat) : List Tg := (ts.getD i zTB).1
theorem otg_rt {w : World} {base c : Nat} {a : Option Addr} {ts : List TB} (h : OTg w base base (.slice a ts.length c) ts) : Rt w base a ts.length (tbF ts) (tbX ts) := by
  have hmem : ∀ i, i < ts.length → ts.getD i zTB ∈ ts := fun i hi => by simp [List.getD_eq_getElem?_getD, hi]
  have rows : ∀ i, i < ts.length → OG 71 3 clG w base (svT (tbF ts i)) (tbX ts i) := fun i hi => h.rows _ (hmem i hi)
  refine ⟨fun hn => ?_, rows, fun i j hi hj hij k hk => ?_⟩
  · obtain ⟨hl, ⟨h0, h1⟩ | ⟨g, cap, cur, hv, hg, hh, h1, h2, h3, h4⟩⟩ := h.head
    · exact absurd h1 hn
    · simp at hv
      refine ⟨g, cur, hv.1, fun ⟨i, hi, e⟩ => ?_, hh, fun i hi => ?_⟩
      · obtain ⟨c1, k1⟩ := own_kind (rows i hi) e
        exact absurd (blk_kind k1 hh) (by decide)
      · have : (cur.toList.take (ts.length * 1))[i]? = (ts.map svT)[i]? := by rw [h4, show ts.flatMap clTB = ts.map svT from flat_one _ _]
        rw [List.getElem?_take, if_pos (by omega)] at this
        rw [← Array.getElem?_toList, this]
        simp [tbF, List.getD_eq_getElem?_getD, hi]
  · have hp := List.pairwise_iff_getElem.1 h.apart
    have gi : ts.getD i zTB = ts[i] := by simp [List.getD_eq_getElem?_getD, hi]
    have gj : ts.getD j zTB = ts[j] := by simp [List.getD_eq_getElem?_getD, hj]
    unfold tbF at hk ⊢
    rw [gi] at hk
    rw [gj]
    rcases Nat.lt_or_gt_of_ne hij with h' | h'
    · exact hp i j hi hj h' k hk
    · exact fun e => hp j i hj hi h' k e hk
/-- how big a layout may be -/
structure LayB (L : Lay) : Prop where
  r : LayR L
  p : L.places.length ≤ 4 ∧ ∀ x ∈ L.places, x.banks.length ≤ 4
  s : L.slots.length ≤ 4
  t : L.targets.length ≤ 4 ∧ ∀ x ∈ L.targets, x.length ≤ 16
theorem sumP_ub (f : Nat → Rw3) (b : Nat) : ∀ n, (∀ i, i < n → (f i).2.1 ≤ b) → sumP f n ≤ n * (b + 3)
  | 0, _ => by simp [sumP]
  | n + 1, h => by
    have h1 := sumP_ub f b n (fun i hi => h i (by omega))
    have h2 := h n (by omega)
    show sumP f n + ((f n).2.1 + 3) ≤ _
    rw [Nat.add_mul]
    omega
theorem sumT_ub (f : Nat → TB) (b : Nat) : ∀ n, (∀ i, i < n → (f i).1.length ≤ b) → sumT f n ≤ n * (3 * b)
  | 0, _ => by simp [sumT]
  | n + 1, h => by
    have h1 := sumT_ub f b n (fun i hi => h i (by omega))
    have h2 := h n (by omega)
    show sumT f n + 3 * (f n).1.length ≤ _
    rw [Nat.add_mul]
    omega
theorem LayO.y3 {W : World} {base : Nat} {L : Lay} {a0 : Option Addr} {c0 : Nat} {xs : List PB} {a2 : Option Addr} {c2 : Nat} {a5 : Option Addr} {c5 : Nat} {ts : List TB} (h : LayO W base L a0 c0 xs a2 c2 a5 c5 ts) (R : LayR L) : Y3 W base a0 xs.length (plF xs) (plV xs) (plX xs) (.slice a2 L.slots.length c2) L.slots a5 ts.length (tbF ts) (tbX ts) where
  p := opl_rp h.p (fun x hx => R.p x.1 (by rw [← h.ps]; exact List.mem_map.2 ⟨x, hx, rfl⟩))
  s := og_oiL h.s R.s
  t := otg_rt h.t
  sp := fun k hk ⟨i, hi, e⟩ => h.sp k hk _ (by simp [List.getD_eq_getElem?_getD, hi]) e
theorem LayO.sizes {W : World} {base : Nat} {L : Lay} {a0 : Option Addr} {c0 : Nat} {xs : List PB} {a2 : Option Addr} {c2 : Nat} {a5 : Option Addr} {c5 : Nat} {ts : List TB} (h : LayO W base L a0 c0 xs a2 c2 a5 c5 ts) (B : LayB L) : xs.length ≤ 1024 ∧ sumP (plF xs) xs.length ≤ 65536 ∧ L.slots.length ≤ 1024 ∧ ts.length ≤ 1024 ∧ sumT (tbF ts) ts.length ≤ 65536 := by
  have hpl : xs.length = L.places.length := by rw [← h.ps, List.length_map]
  have htl : ts.length = L.targets.length := by rw [← h.tt, List.length_map]
  have p1 := B.p.1
  have t1 := B.t.1
  have s1 := B.s
  have h1 := sumP_ub (plF xs) 4 xs.length (fun i hi => B.p.2 _ (by rw [← h.ps]; exact List.mem_map.2 ⟨xs.getD i zPB, by simp [List.getD_eq_getElem?_getD, hi], rfl⟩))
  have h2 := sumT_ub (tbF ts) 16 ts.length (fun i hi => B.t.2 _ (by rw [← h.tt]; exact List.mem_map.2 ⟨ts.getD i zTB, by simp [List.getD_eq_getElem?_getD, hi], rfl⟩))
  have h3 : xs.length * (4 + 3) ≤ 4 * 7 := Nat.mul_le_mul (by omega) (by omega)
  have h4 : ts.length * (3 * 16) ≤ 4 * 48 := Nat.mul_le_mul (by omega) (by omega)
  omega
theorem layB_zero : LayB L0 := ⟨⟨by simp [L0], by simp [L0], by simp [L0]⟩, by simp [L0], by simp [L0], by simp [L0]⟩
theorem lkc_facts {ps : List PMod} {s w k d : Int} (h : lkc ps s w k d = 0) : cfo s w k d = true ∧ 1 ≤ ps.length ∧ ps.length ≤ 4 ∧ vlds ps ∧ imps ps := by
  unfold lkc at h
  split at h
  · rename_i h1; exact absurd h h1
  rename_i h1
  split at h
  · exact absurd h (by decide)
  rename_i h2
  simp at h1
  unfold snd4 at h1
  split at h1
  · exact absurd h1 (by decide)
  rename_i h3
  split at h1
  · exact absurd h1 (by decide)
  rename_i h4
  split at h1
  · exact absurd h1 (by decide)
  rename_i h5
  exact ⟨by simpa using h3, by omega, by omega, Classical.not_not.1 h5, Classical.not_not.1 h2⟩
theorem layB_lay {ps : List PMod} {s w k d : Int} (h : lkc ps s w k d = 0) : LayB (lay ps s w k) := by
  obtain ⟨hc, h1, h2, hv, _⟩ := lkc_facts h
  unfold cfo at hc
  simp at hc
  obtain ⟨c1, c2, c3, c4, c5, c6, _⟩ := hc
  have hmem : ∀ i, i < ps.length → mdoP (ps.getD i zP) = 0 := hv
  refine ⟨⟨fun x hx z hz => ?_, fun z hz => ?_, ?_, ?_, fun x hx => ?_⟩, ⟨?_, fun x hx => ?_⟩, ?_, ⟨?_, fun x hx => ?_⟩⟩
  · simp only [lay, List.mem_map, List.mem_range] at hx
    obtain ⟨i, hi, rfl⟩ := hx
    simp only [plc, List.mem_map, List.mem_range] at hz
    obtain ⟨q, hq, rfl⟩ := hz
    have a1 := Fl_range hv i (by omega)
    have a2 := fsum_range (hmem i hi) q (by omega)
    have a3 := vld_en (hmem i hi)
    have a4 := rnd_range (x := 4 * ((ps.getD i zP).tz.length : Int)) (by omega)
    have a5 : tsz (ps.getD i zP) = rnd (4 * ((ps.getD i zP).tz.length : Int)) := rfl
    rw [a5]
    unfold wfi
    omega
  · simp only [lay, List.mem_map, List.mem_range] at hz
    obtain ⟨i, hi, rfl⟩ := hz
    have a1 := Ra_range hv ps.length (Nat.le_refl _)
    have a4 := rnd_range (x := 4 * w) (by omega)
    have a5 : (0 : Int) ≤ (i : Int) * rnd (4 * w) := Int.mul_nonneg (by omega) (by omega)
    have a6 : (i : Int) * rnd (4 * w) ≤ 4 * 287 := Int.mul_le_mul (by omega) (by omega) (by omega) (by omega)
    unfold slt wfi
    omega
  · simp [lay]; omega
  · simp [lay]; omega
  · simp only [lay, List.mem_map, List.mem_range] at hx
    obtain ⟨i, hi, rfl⟩ := hx
    have a3 := vld_en (hmem i hi)
    simp only [tgs, List.length_map, List.length_range]; omega
  · simp [lay]; omega
  · simp only [lay, List.mem_map, List.mem_range] at hx
    obtain ⟨i, hi, rfl⟩ := hx
    have a3 := vld_en (hmem i hi)
    simp only [plc, List.length_map, List.length_range]; omega
  · simp [lay]; omega
  · simp [lay]; omega
  · simp only [lay, List.mem_map, List.mem_range] at hx
    obtain ⟨i, hi, rfl⟩ := hx
    have a3 := vld_en (hmem i hi)
    simp only [tgs, List.length_map, List.length_range]; omega
theorem layB_lk (ps : List PMod) (s w k d : Int) : LayB (lkL ps s w k d) := by
  unfold lkL
  by_cases h : lkc ps s w k d = 0
  · rw [if_pos h]; exact layB_lay h
  · rw [if_neg h]; exact layB_zero
end Go.Proofs.YtngdgogjlpjjpaeGreat
