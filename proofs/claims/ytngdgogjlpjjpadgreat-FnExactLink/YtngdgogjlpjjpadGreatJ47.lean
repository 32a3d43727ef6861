import Derived.Test.YtngdgogjlpjjpadGreatJ46
import Derived.Test.YtngdgogjlpjjpadGreatJ45
import Derived.Test.YtngdgogjlpjjpadGreatJ21
namespace Go.Proofs.YtngdgogjlpjjpadGreat
open Go.RowKit
set_option linter.unusedVariables false
set_option linter.unusedSimpArgs false
set_option maxRecDepth 100000

set_option maxHeartbeats 4000000 in
theorem heldPlaceS_any (a : Option Addr) (n cap k base : Nat) (f : Nat → Rw3) (w : World) (h : Rp w base a n f (mvP k f) (mrkP k f)) (hn : n ≤ 1048576) (hs : sumP f n ≤ 1048576) (hk : k ≤ 2097152) :
    Calls Tryz.prog 133 #[.slice a n cap, .int .i64 k] w fun e w' => e = .returned (.int .i64 ((k + sumP f n : Nat) : Int)) ∧ w = w' := by
  have HH := hide h
  clear h
  go_enter Tryz.func133, Tryz.ntmps133
  go_wp2
  go_loop [1, 5] (fun x i => ∃ m : Nat, m ≤ n ∧ i = .int .i64 m ∧ x = .int .i64 ((k + sumP f m : Nat) : Int)) (fun _ i => n - (intOf i).toNat)
  case atStart => exact ⟨0, Nat.zero_le _, rfl, rfl⟩
  case round =>
    obtain ⟨m, hm, rfl, rfl⟩ := hrel
    by_cases hlt : m < n
    · have hlt' : (m : Int) < (n : Int) := by omega
      obtain ⟨g, cs, rfl, hng, hb, hc⟩ := HH.out.head (by omega)
      obtain ⟨d0, d1, d2, d3⟩ := hc m hlt
      have c0 := (hb.cell (m * 4)).trans d0
      have c1 := (hb.cell (m * 4 + 1)).trans d1
      have c2 := (hb.cell (m * 4 + 2)).trans d2
      have c3 := (hb.cell (m * 4 + 3)).trans d3
      have hle := sumP_le f n m hlt
      have hr := HH.out.rows m hlt
      unfold mrkP at hr
      have HMK := hide (heldIntS_any (f m).1 (f m).2.1 (f m).2.2 (k + sumP f m + 1) w hr.is (by omega) (by omega))
      have HSU := hide (show sumP f (m + 1) = sumP f m + ((f m).2.1 + 3) from rfl)
      clear hb hc hr d0 d1 d2 d3
      unfold mvP at c0 c2 c3
      unfold svR at c1
      generalize sumP f m = sm at *
      generalize f m = fm at *
      obtain ⟨fa, fn, fc⟩ := fm
      dsimp only at *
      have n0 : (((k + sm : Nat) : Int) != ((k + sm : Nat) : Int)) = false := by simp
      have n1 : (((k + sm + 1 + fn : Nat) : Int) != ((k + sm + 1 + fn : Nat) : Int)) = false := by simp
      have n2 : (((k + sm + 1 + fn + 1 : Nat) : Int) != ((k + sm + 1 + fn + 1 : Nat) : Int)) = false := by simp
      go_wp2_with fail
      refine HMK.out.mono ?_
      rintro e w1 ⟨rfl, rfl⟩
      have hnn : ¬ (((k + sm + 1 + fn : Nat) : Int) < 0) := by omega
      clear HMK
      go_wp2
      go_round
      case rel => exact ⟨m + 1, by omega, by go_num, by rw [HSU.out]; go_num⟩
      case measure => simp [intOf]; omega
    · have e : Hid (m = n) := by show m = n; omega
      go_wp2
      go_ret
      exact ⟨ret_int (by rw [e.out]), rfl⟩
end Go.Proofs.YtngdgogjlpjjpadGreat

namespace Go.Proofs.YtngdgogjlpjjpadGreat
open Go.RowKit
set_option linter.unusedVariables false
set_option linter.unusedSimpArgs false
set_option maxRecDepth 100000

/-- the heads of banks that were copied -/
def bankF (xs : List Nat) (bl : List Bk) (i : Nat) : Option Addr × Nat × Nat := (some ⟨xs.getD i 0, 0, none⟩, (bl.getD i zB).2.1, (bl.getD i zB).2.1)
theorem sumB_bank (xs : List Nat) (bl : List Bk) : ∀ n, sumB (bankF xs bl) n = upS (fun j => (bl.getD j zB).2.1) n
  | 0 => rfl
  | n + 1 => by show sumB (bankF xs bl) n + _ = upS _ n + _; rw [sumB_bank xs bl n]; rfl
/-- the rows of a module that was copied may be marked -/
theorem mod_sl {nm : ByteArray} {ta : Option Addr} {tn tc : Nat} {tz : List Int} {ba : Option Addr} {bn bc : Nat} {bl : List Bk} {da : Option Addr} {dn dc : Nat} {dz : List Int} {bss : Int} {ra : Option Addr} {rn rc : Nat} {rz : List Int} {ia : Option Addr} {im ic : Nat} {ss : List ByteArray} {ea : Option Addr} {en ec : Nat} {es : List Ex} {w W : World} {g1 g2 g3 g5 g6 g7 : Nat} {gs : List Nat} (h : MT w nm ta tn tc tz ba bn bc bl da dn dc dz bss ra rn rc rz ia im ic ss ea en ec es) (hg : gs.length = bn)
    (r1 : RowI W g1 tz) (r2 : RowB W g2 bn gs bl) (r3 : Row8 W g3 dz) (r5 : RowI W g5 rz) (r6 : RowT W g6 ss) (r7 : RowX W g7 es) {S : Nat → Prop} (s1 : S g1) (s2 : ¬ S g2) (sb : ∀ i, i < bn → S (gs.getD i 0)) (s3 : S g3) (s5 : S g5) (s6 : S g6) (s7 : S g7) :
    Sl S W (some ⟨g1, 0, none⟩) tn 1 ∧ SlB S W (some ⟨g2, 0, none⟩) bn (bankF gs bl) ∧ Sl S W (some ⟨g3, 0, none⟩) dn 1 ∧ Sl S W (some ⟨g5, 0, none⟩) rn 1 ∧ Sl S W (some ⟨g6, 0, none⟩) im 1 ∧ Sl S W (some ⟨g7, 0, none⟩) en 3 := by
  obtain ⟨⟨cur, hb, hsz, hc⟩, hr, _⟩ := r2
  obtain ⟨⟨cx, hx, hxs⟩, _⟩ := r7
  refine ⟨Sl.ofBlk (c := tc) r1 s1 (by simp [h.t.1]), ⟨fun _ => ⟨g2, 0, cur, _, rfl, s2, hb, fun i hi => by rw [Nat.zero_add]; exact hc i (by omega)⟩, fun i hi => ?_⟩, Sl.ofBlk (c := tc) r3 s3 (by simp [h.d.1]), Sl.ofBlk (c := tc) r5 s5 (by simp [h.r.1]), Sl.ofBlk (c := tc) r6 s6 (by simp [h.i.1]), Sl.ofBlk (c := tc) hx s7 (by rw [hxs, h.e.1]; exact Nat.le_refl _)⟩
  exact Sl.ofBlk (c := tc) (hr i (by omega)).1 (sb i hi) (by have e1 : (bankF gs bl i).2.1 = (bl.getD i zB).2.1 := rfl; have e2 := (h.b.2.2.2.1 i hi).1; rw [e1, List.size_toArray, List.length_map, e2]; omega)
end Go.Proofs.YtngdgogjlpjjpadGreat

namespace Go.Proofs.YtngdgogjlpjjpadGreat
open Go.RowKit
set_option linter.unusedVariables false
set_option linter.unusedSimpArgs false
set_option maxRecDepth 100000

/-- the cells of a module that marks leave as they are -/
def Ar8 (cs : Array Value) (o : Nat) (m : Md) : Prop := (∃ u, cs[o]? = some u) ∧ cs[o + 1]? = some (.slice m.ta m.tn m.tc) ∧ cs[o + 2]? = some (.slice m.ba m.bn m.bc) ∧ cs[o + 3]? = some (.slice m.da m.dn m.dc) ∧ (∃ u, cs[o + 4]? = some u) ∧ cs[o + 5]? = some (.slice m.ra m.rn m.rc) ∧ cs[o + 6]? = some (.slice m.ia m.im m.ic) ∧ cs[o + 7]? = some (.slice m.ea m.en m.ec)
theorem ar_ex {cs : Array Value} {i j : Nat} {v : Value} (h : ∃ u, cs[j]? = some u) : ∃ u, (cs.setIfInBounds i v)[j]? = some u := by
  obtain ⟨u, h⟩ := h
  by_cases e : i = j
  · subst e; exact ⟨v, ar_same h⟩
  · exact ⟨u, ar_other h e⟩
theorem ar8_set {cs : Array Value} {o i j : Nat} {m : Md} {v : Value} (h : Ar8 cs (o * 8) m) (hj : j = 0 ∨ j = 4) : Ar8 (cs.setIfInBounds (i * 8 + j) v) (o * 8) m :=
  ⟨ar_ex h.1, ar_other h.2.1 (by omega), ar_other h.2.2.1 (by omega), ar_other h.2.2.2.1 (by omega), ar_ex h.2.2.2.2.1, ar_other h.2.2.2.2.2.1 (by omega), ar_other h.2.2.2.2.2.2.1 (by omega), ar_other h.2.2.2.2.2.2.2 (by omega)⟩
/-- the rows of a module may be marked -/
structure Rws (S : Nat → Prop) (W : World) (c : Nat) (m : Md) (f : Nat → Rw3) : Prop where
  t : Sl S W m.ta m.tn 1
  b : SlB S W m.ba m.bn f
  d : Sl S W m.da m.dn 1
  r : Sl S W m.ra m.rn 1
  i : Sl S W m.ia m.im 1
  e : Sl S W m.ea m.en 3
  g : ∀ g o, m.ba = some ⟨g, o, none⟩ → g ≠ c
theorem Rws.kept {S : Nat → Prop} {W W' : World} {c : Nat} {m : Md} {f : Nat → Rw3} (h : Rws S W c m f) (k : Mkd S W W') : Rws S W' c m f :=
  ⟨h.t.shp k.shp, h.b.kept k, h.d.shp k.shp, h.r.shp k.shp, h.i.shp k.shp, h.e.shp k.shp, h.g⟩
theorem Rws.set {S : Nat → Prop} {W : World} {c : Nat} {m : Md} {f : Nat → Rw3} (h : Rws S W c m f) (i : Nat) (v : Value) : Rws S (W.setCell ⟨c, i, none⟩ v) c m f :=
  have sh := Shp.set W c i v
  ⟨h.t.shp sh, ⟨fun hn => by obtain ⟨g, o, cs, t, ha, hs, hb, hl⟩ := h.b.head hn; exact ⟨g, o, cs, t, ha, hs, hb.other _ _ (h.g g o ha), hl⟩, fun i hi => (h.b.rows i hi).shp sh⟩, h.d.shp sh, h.r.shp sh, h.i.shp sh, h.e.shp sh, h.g⟩
/-- A ROW OF MODULES THAT MAY BE MARKED -/
structure Mrs (S : Nat → Prop) (W : World) (c n : Nat) (ms : List Md) (F : Nat → Nat → Rw3) : Prop where
  nc : ¬ S c
  head : ∃ cs, Blk W c cs 49 ∧ ∀ i, i < n → Ar8 cs (i * 8) (ms.getD i zMd)
  rows : ∀ i, i < n → Rws S W c (ms.getD i zMd) (F i)
theorem Mrs.kept {S : Nat → Prop} {W W' : World} {c n : Nat} {ms : List Md} {F : Nat → Nat → Rw3} (h : Mrs S W c n ms F) (k : Mkd S W W') : Mrs S W' c n ms F :=
  ⟨h.nc, by obtain ⟨cs, hb, hc⟩ := h.head; exact ⟨cs, turn_blk k.turn hb h.nc, hc⟩, fun i hi => (h.rows i hi).kept k⟩
theorem Mrs.set {S : Nat → Prop} {W : World} {c n : Nat} {ms : List Md} {F : Nat → Nat → Rw3} (h : Mrs S W c n ms F) (i j : Nat) (hj : j = 0 ∨ j = 4) (v : Value) : Mrs S (W.setCell ⟨c, i * 8 + j, none⟩ v) c n ms F :=
  ⟨h.nc, by obtain ⟨cs, hb, hc⟩ := h.head; exact ⟨_, hb.set _ _, fun o ho => ar8_set (hc o ho) hj⟩, fun o ho => (h.rows o ho).set _ _⟩
theorem Mrs.at {S : Nat → Prop} {W : World} {c n : Nat} {ms : List Md} {F : Nat → Nat → Rw3} (h : Mrs S W c n ms F) (i : Nat) (hi : i < n) : (∃ u, W.cell? ⟨c, i * 8, none⟩ = some u) ∧ W.cell? ⟨c, i * 8 + 1, none⟩ = some (.slice (ms.getD i zMd).ta (ms.getD i zMd).tn (ms.getD i zMd).tc) ∧ W.cell? ⟨c, i * 8 + 2, none⟩ = some (.slice (ms.getD i zMd).ba (ms.getD i zMd).bn (ms.getD i zMd).bc) ∧ W.cell? ⟨c, i * 8 + 3, none⟩ = some (.slice (ms.getD i zMd).da (ms.getD i zMd).dn (ms.getD i zMd).dc) ∧ (∃ u, W.cell? ⟨c, i * 8 + 4, none⟩ = some u) ∧ W.cell? ⟨c, i * 8 + 5, none⟩ = some (.slice (ms.getD i zMd).ra (ms.getD i zMd).rn (ms.getD i zMd).rc) ∧ W.cell? ⟨c, i * 8 + 6, none⟩ = some (.slice (ms.getD i zMd).ia (ms.getD i zMd).im (ms.getD i zMd).ic) ∧ W.cell? ⟨c, i * 8 + 7, none⟩ = some (.slice (ms.getD i zMd).ea (ms.getD i zMd).en (ms.getD i zMd).ec) ∧ ∀ j, W.frozen? ⟨c, j, none⟩ = false := by
  obtain ⟨cs, hb, hc⟩ := h.head
  obtain ⟨⟨u, h0⟩, h1, h2, h3, ⟨u4, h4⟩, h5, h6, h7⟩ := hc i hi
  exact ⟨⟨u, (hb.cell _).trans h0⟩, (hb.cell _).trans h1, (hb.cell _).trans h2, (hb.cell _).trans h3, ⟨u4, (hb.cell _).trans h4⟩, (hb.cell _).trans h5, (hb.cell _).trans h6, (hb.cell _).trans h7, fun j => hb.frozen j⟩
/-- how many marks a module takes -/
def cntM (ms : List Md) (F : Nat → Nat → Rw3) (i : Nat) : Nat := 2 + (ms.getD i zMd).tn + sumB (F i) (ms.getD i zMd).bn + (ms.getD i zMd).dn + (ms.getD i zMd).rn + (ms.getD i zMd).im + 3 * (ms.getD i zMd).en
theorem upS_lt (f : Nat → Nat) : ∀ n i, i < n → f i + upS f i ≤ upS f n
  | 0, i, h => by omega
  | n + 1, i, h => by
    show _ ≤ upS f n + f n
    by_cases e : i = n
    · subst e; omega
    · have := upS_lt f n i (by omega); omega

set_option maxHeartbeats 4000000 in
theorem markModuleS_sl (S : Nat → Prop) (c n cap k : Nat) (ms : List Md) (F : Nat → Nat → Rw3) (w : World) (h : Mrs S w c n ms F) (hz : k + upS (cntM ms F) n ≤ 4194304) (hb : ∀ i, i < n → (ms.getD i zMd).bn ≤ 1048576) (hy : ∀ i, i < n → cntM ms F i ≤ 4194304 ∧ (ms.getD i zMd).tn ≤ 1048576 ∧ (ms.getD i zMd).dn ≤ 1048576 ∧ (ms.getD i zMd).rn ≤ 1048576 ∧ (ms.getD i zMd).im ≤ 1048576 ∧ (ms.getD i zMd).en ≤ 1048576 ∧ sumB (F i) (ms.getD i zMd).bn ≤ 1048576) (hn : n ≤ 1048576) :
    Calls Tryz.prog 47 #[.slice (some ⟨c, 0, none⟩) n cap, .int .i64 k] w fun e w' => e = .returned (.int .i64 ((k + upS (cntM ms F) n : Nat) : Int)) ∧ Mkd (fun j => S j ∨ j = c) w w' := by
  have HH := hide h
  clear h
  go_enter Tryz.func47, Tryz.ntmps47
  go_wp2
  go_loopw [1, 5] (fun x i wr => ∃ m : Nat, m ≤ n ∧ i = .int .i64 m ∧ x = .int .i64 ((k + upS (cntM ms F) m : Nat) : Int) ∧ Mrs S wr c n ms F ∧ Mkd (fun j => S j ∨ j = c) w wr) (fun _ i _ => n - (intOf i).toNat)
  case atStart => exact ⟨0, Nat.zero_le _, rfl, rfl, HH.out, Mkd.refl _ _⟩
  case round =>
    obtain ⟨m, hm, rfl, rfl, R, M⟩ := hrel
    by_cases hlt : m < n
    · have hlt' : (m : Int) < (n : Int) := by omega
      obtain ⟨y0, y1, y2, y3, y4, y5, y6⟩ := hy m hlt
      have y7 := hb m hlt
      have hle := upS_lt (cntM ms F) n m hlt
      have HSU := hide (show upS (cntM ms F) (m + 1) = upS (cntM ms F) m + cntM ms F m from rfl)
      have HC := hide (show cntM ms F m = 2 + (ms.getD m zMd).tn + sumB (F m) (ms.getD m zMd).bn + (ms.getD m zMd).dn + (ms.getD m zMd).rn + (ms.getD m zMd).im + 3 * (ms.getD m zMd).en from rfl)
      have hC := HC.out
      have HM1 := hide (fun (W : World) (K : Nat) (hK : K ≤ 4194304) (r : Mrs S W c n ms F) => markIntS_sl S _ _ (ms.getD m zMd).tc K W (r.rows m hlt).t y1 (by omega))
      have HM2 := hide (fun (W : World) (K : Nat) (hK : K ≤ 4194304) (r : Mrs S W c n ms F) => markIntSS_sl S _ _ (ms.getD m zMd).bc K (F m) W (r.rows m hlt).b y7 y6 hK)
      have HM3 := hide (fun (W : World) (K : Nat) (hK : K ≤ 4194304) (r : Mrs S W c n ms F) => markByteS_sl S _ _ (ms.getD m zMd).dc K W (r.rows m hlt).d y2 (by omega))
      have HM5 := hide (fun (W : World) (K : Nat) (hK : K ≤ 4194304) (r : Mrs S W c n ms F) => markIntS_sl S _ _ (ms.getD m zMd).rc K W (r.rows m hlt).r y3 (by omega))
      have HM6 := hide (fun (W : World) (K : Nat) (hK : K ≤ 4194304) (r : Mrs S W c n ms F) => markStringS_sl S _ _ (ms.getD m zMd).ic K W (r.rows m hlt).i y4 (by omega))
      have HM7 := hide (fun (W : World) (K : Nat) (hK : K ≤ 4194304) (r : Mrs S W c n ms F) => markExportS_sl S _ _ (ms.getD m zMd).ec K W (r.rows m hlt).e y5 hK)
      have HAT := hide (fun (W : World) (r : Mrs S W c n ms F) => r.at m hlt)
      clear HC
      generalize upS (cntM ms F) m = sm at *
      generalize sumB (F m) (ms.getD m zMd).bn = sb at *
      generalize cntM ms F m = cm at *
      generalize ms.getD m zMd = q at *
      obtain ⟨nm, ta, tn, tc, tz, ba, bn, bc, bl, da, dn, dc, dz, bss, ra, rn, rc, rz, ia, im, ic, ss, ea, en, ec, es⟩ := q
      dsimp only at *
      have HR := hide R
      clear R
      have HM := hide M
      clear M
      go_wp2_with fail
      refine (markText_any (k + sm) wr (by omega)).mono ?_
      rintro e w1 ⟨s, rfl, hs, hb1⟩
      have R1 := HR.out.kept (Mkd.below hb1)
      have M1 := HM.out.trans (Mkd.below hb1)
      clear HR HM hb1
      obtain ⟨⟨u0, p0⟩, p1, p2, p3, ⟨u4, p4⟩, p5, p6, p7, pf⟩ := HAT.out _ R1
      have f0 := pf (m * 8)
      have R2 := R1.set m 0 (.inl rfl) (.string s)
      simp only [Nat.add_zero] at R2
      have M2 := M1.set c (m * 8) (.string s) (.inr rfl)
      clear R1 M1 p1 p2 p3 p4 p5 p6 p7 pf
      obtain ⟨_, q1, _⟩ := HAT.out _ R2
      go_wp2_with fail
      refine (HM1.out _ (k + sm + 1) (by omega) R2).mono ?_
      rintro e w2 ⟨rfl, N⟩
      have R3 := R2.kept N
      have M3 := M2.trans (N.mono (fun j hj => .inl hj))
      clear R2 M2 N q1 p0 f0
      obtain ⟨_, _, q2, _⟩ := HAT.out _ R3
      go_wp2_with fail
      refine (HM2.out _ (k + sm + 1 + tn) (by omega) R3).mono ?_
      rintro e w3 ⟨rfl, N⟩
      have R4 := R3.kept N
      have M4 := M3.trans (N.mono (fun j hj => .inl hj))
      clear R3 M3 N q2
      obtain ⟨_, _, _, q3, _⟩ := HAT.out _ R4
      go_wp2_with fail
      refine (HM3.out _ (k + sm + 1 + tn + sb) (by omega) R4).mono ?_
      rintro e w4 ⟨rfl, N⟩
      have R5 := R4.kept N
      have M5 := M4.trans (N.mono (fun j hj => .inl hj))
      clear R4 M4 N q3
      obtain ⟨_, _, _, _, ⟨u4, q4⟩, _, _, _, qf⟩ := HAT.out _ R5
      have f4 := qf (m * 8 + 4)
      have R6 := R5.set m 4 (.inr rfl) (.int .i64 ((k + sm + 1 + tn + sb + dn : Nat) : Int))
      have M6 := M5.set c (m * 8 + 4) (.int .i64 ((k + sm + 1 + tn + sb + dn : Nat) : Int)) (.inr rfl)
      clear R5 M5 qf
      obtain ⟨_, _, _, _, _, q5, _⟩ := HAT.out _ R6
      go_wp2_with fail
      refine (HM5.out _ (k + sm + 1 + tn + sb + dn + 1) (by omega) R6).mono ?_
      rintro e w5 ⟨rfl, N⟩
      have R7 := R6.kept N
      have M7 := M6.trans (N.mono (fun j hj => .inl hj))
      clear R6 M6 N q5 q4 f4
      obtain ⟨_, _, _, _, _, _, q6, _⟩ := HAT.out _ R7
      go_wp2_with fail
      refine (HM6.out _ (k + sm + 1 + tn + sb + dn + 1 + rn) (by omega) R7).mono ?_
      rintro e w6 ⟨rfl, N⟩
      have R8 := R7.kept N
      have M8 := M7.trans (N.mono (fun j hj => .inl hj))
      clear R7 M7 N q6
      obtain ⟨_, _, _, _, _, _, _, q7, _⟩ := HAT.out _ R8
      go_wp2_with fail
      refine (HM7.out _ (k + sm + 1 + tn + sb + dn + 1 + rn + im) (by omega) R8).mono ?_
      rintro e w7 ⟨rfl, N⟩
      have R9 := hide (R8.kept N)
      have M9 := hide (M8.trans (N.mono (fun j hj => .inl hj)))
      clear R8 M8 N q7
      go_wp2
      go_roundw
      case rel => exact ⟨m + 1, by omega, by go_num, by rw [HSU.out]; go_num, R9.out, M9.out⟩
      case measure => simp [intOf]; omega
    · have e : Hid (m = n) := by show m = n; omega
      have HX := hide M
      clear R M
      go_wp2
      go_ret
      exact ⟨ret_int (by rw [e.out]), HX.out⟩
end Go.Proofs.YtngdgogjlpjjpadGreat
