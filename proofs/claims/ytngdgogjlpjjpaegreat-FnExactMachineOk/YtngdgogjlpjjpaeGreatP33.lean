import Derived.Test.YtngdgogjlpjjpaeGreatP17
import Derived.Test.YtngdgogjlpjjpaeGreatP16
import Derived.Test.YtngdgogjlpjjpaeGreatP30
import Derived.Test.YtngdgogjlpjjpaeGreatP26
import Derived.Test.YtngdgogjlpjjpaeGreatP31
namespace Go.Proofs.YtngdgogjlpjjpaeGreat
open Go.RowKit Classical
set_option linter.unusedVariables false
set_option linter.unusedSimpArgs false
set_option maxRecDepth 100000
theorem slz_eq {c : Int} (h0 : 1 ≤ c) (h1 : c ≤ 64) : ((slz c : Nat) : Int) = rnd (4 * c) ∧ slz c ≤ 256 ∧ 4 * c ≤ (slz c : Int) := by
  have := rnd_range (x := 4 * c) (by omega)
  have e : rnd (4 * c) = (4 * c + 31) / 32 * 32 := rfl
  unfold slz
  omega
theorem bnk_fit {ps : List PMod} {s c k d m b : Int} (h : lkc ps s c k d = 0) (hs : 0 < s) (hp : 0 ≤ pcq ps m b) (hb : 0 ≤ b) : 4 * (bnk ps m b).length ≤ slz c ∧ ∀ i, i < (bnk ps m b).length → 0 ≤ (bnk ps m b).getD i 0 ∧ (bnk ps m b).getD i 0 ≤ 4294967295 := by
  obtain ⟨h1, h2, h3, h4, h5, h6, h7, h8, h9⟩ := lkc_all.1 h
  unfold cfo at h1
  simp at h1
  obtain ⟨s0, s1, w0, w1, _⟩ := h1
  obtain ⟨z1, z2, z3⟩ := slz_eq w0 w1
  unfold pcq at hp
  by_cases c1 : 0 ≤ m ∧ m < (ps.length : Int)
  · rw [if_pos c1, if_neg (by omega)] at hp
    by_cases c2 : 0 ≤ b ∧ b < ((ps.getD m.toNat zP).bl.length : Int)
    · have hv := vld_wd (h4 m.toNat (by omega))
      have hsh := h7 hs m.toNat (by omega) b.toNat (by omega)
      exact ⟨by unfold bnk; omega, hv.2 b.toNat (by omega)⟩
    · rw [if_neg c2] at hp; exact absurd hp (by decide)
  · rw [if_neg c1] at hp; exact absurd hp (by decide)
theorem bank_at {w : World} {a : Option Addr} {n cap : Nat} {ms : List Md} (h : MSD w a n cap ms) {m b : Int} (hp : 0 ≤ pcq (pmS ms) m b) (hb : 0 ≤ b) : ∃ gm om gb ob dn dc ba bc, a = some ⟨gm, om, none⟩ ∧ (0 ≤ m ∧ m < (n : Int)) ∧ b < ((dn : Nat) : Int) ∧ dn ≤ 9223372036854775807 ∧ (∀ X, Below w.heap.size w X → X.cell? ⟨gm, om + m.toNat * 8 + 2, none⟩ = some (.slice (some ⟨gb, ob, none⟩) dn dc) ∧ X.cell? ⟨gb, ob + b.toNat, none⟩ = some (.slice ba (bnk (pmS ms) m b).length bc)) ∧ IS w ba (bnk (pmS ms) m b).length bc (bnk (pmS ms) m b) := by
  obtain ⟨⟨h0, h1⟩, hq⟩ := pcq_in h hp
  obtain ⟨gm, om, rfl, v0, v1, v2, v3, v4, v5, v6, v7⟩ := h.s.at m.toNat (by omega)
  have hd := h.d m.toNat (by omega)
  have hn := h.s.1
  have hbn : bnk (pmS ms) m b = ((ms.getD m.toNat zMd).pm.bl).getD b.toNat [] := by unfold bnk; rw [pmS_at (by omega)]
  generalize ms.getD m.toNat zMd = D at *
  have hlt : b < (D.bn : Int) := by
    unfold pcn at hq
    rw [if_neg (by omega)] at hq
    by_cases c : 0 ≤ b ∧ b < (D.bn : Int)
    · exact c.2
    · rw [if_neg c] at hq; omega
  obtain ⟨b1, b2, b3, b4, b5⟩ := hd.b
  obtain ⟨gb, ob, hba, hc⟩ := b3 (by omega)
  have r := b4 b.toNat (by omega)
  have ec := hc b.toNat (by omega)
  have e1 : bnk (pmS ms) m b = (D.bl.getD b.toNat zB).2.2.2 := by
    rw [hbn]
    simp [Md.pm, List.getD_eq_getElem?_getD, show b.toNat < D.bl.length by omega]
  rw [← e1] at r
  rw [hba] at v2
  have e2 := r.1
  rw [← e2] at r ec
  unfold maxLen at b2
  exact ⟨gm, om, gb, ob, D.bn, D.bc, _, _, rfl, ⟨h0, h1⟩, hlt, by omega, fun X hX => ⟨cell_below hX v2, cell_below hX ec⟩, r⟩
set_option maxHeartbeats 1000000 in
theorem slotSize_any (s c k d : Int) (w : World) (h0 : 1 ≤ c) (h1 : c ≤ 64) :
    Calls Tryz.prog 273 #[.agg #[.int .i64 s, .int .i64 c, .int .i64 k, .int .i64 d]] w fun e w' => e = .returned (.int .i64 (slz c : Nat)) ∧ Below w.heap.size w w' := by
  have HR := hide (fun (X : World) => roundUp_any (4 * c) X (by omega) (by omega))
  rw [← (slz_eq h0 h1).1] at HR
  have HB := hide ((Below.refl w.heap.size w).alloc (Nat.le_refl _) (.cells #[.int .i64 s, .int .i64 c, .int .i64 k, .int .i64 d] 44))
  go_enter Tryz.func273, Tryz.ntmps273
  go_wp2_with (go_at_call 229; refine (HR.out _).mono ?_; rintro e w1 ⟨rfl, rfl⟩)
  go_ret
  exact ⟨rfl, HB.out⟩
def BkB (w : World) (ps : List PMod) (c m b : Int) (e : Ending) (w' : World) : Prop := ∃ g, e = .returned (.slice (some ⟨g, 0, none⟩) (slz c) (slz c)) ∧ OB w' w.heap.size (.slice (some ⟨g, 0, none⟩) (slz c) (slz c)) (bkb ps c m b) ∧ Below w.heap.size w w'
set_option maxHeartbeats 8000000 in
theorem l7SlotBytes_any (M : Mn) (x0 : Bool) (x1 x2 x3 : Int) (w : World) (h : MnD w M) (hk : lkc (pmS M.ms) M.cs M.cw M.ck M.cd = 0) (hs : 0 < M.cs) (hp : 0 ≤ pcq (pmS M.ms) x1 x2) (hb : 0 ≤ x2) :
    Calls Tryz.prog 245 #[.agg #[.slice M.ma M.mn M.mc, .int .i64 M.cs, .int .i64 M.cw, .int .i64 M.ck, .int .i64 M.cd, .int .i64 M.pc, .slice M.ka M.kn M.kc, .slice M.fa M.fn M.fc, .slice M.ra M.rn M.rc, .slice M.oa M.on M.oc, .int .i64 M.md, .int .i64 M.bk, .slice M.la M.ln M.lc, .slice M.ha M.hn M.hc, .int .i64 M.tn], .agg #[.bool x0, .int .i64 x1, .int .i64 x2, .int .i64 x3]] w (BkB w (pmS M.ms) M.cw x1 x2) := by
  obtain ⟨w0, w1⟩ : 1 ≤ M.cw ∧ M.cw ≤ 64 := by
    have h1 := (lkc_all.1 hk).1
    unfold cfo at h1
    simp at h1
    exact ⟨h1.2.2.1, h1.2.2.2.1⟩
  obtain ⟨f1, f2⟩ := bnk_fit hk hs hp hb
  obtain ⟨z1, z2, z3⟩ := slz_eq w0 w1
  obtain ⟨U, hU⟩ : ∃ U, U = w.alloc (.cells #[.slice M.ma M.mn M.mc, .int .i64 M.cs, .int .i64 M.cw, .int .i64 M.ck, .int .i64 M.cd, .int .i64 M.pc, .slice M.ka M.kn M.kc, .slice M.fa M.fn M.fc, .slice M.ra M.rn M.rc, .slice M.oa M.on M.oc, .int .i64 M.md, .int .i64 M.bk, .slice M.la M.ln M.lc, .slice M.ha M.hn M.hc, .int .i64 M.tn] 54) := ⟨_, rfl⟩
  have bU : Below w.heap.size w U := by rw [hU]; exact (Below.refl _ _).alloc (Nat.le_refl _) _
  have kU : Blk U w.heap.size #[.slice M.ma M.mn M.mc, .int .i64 M.cs, .int .i64 M.cw, .int .i64 M.ck, .int .i64 M.cd, .int .i64 M.pc, .slice M.ka M.kn M.kc, .slice M.fa M.fn M.fc, .slice M.ra M.rn M.rc, .slice M.oa M.on M.oc, .int .i64 M.md, .int .i64 M.bk, .slice M.la M.ln M.lc, .slice M.ha M.hn M.hc, .int .i64 M.tn] 54 := by rw [hU]; exact Blk.new _ _ _
  obtain ⟨V, hV⟩ : ∃ V, V = U.alloc (.cells #[.bool x0, .int .i64 x1, .int .i64 x2, .int .i64 x3] 134) := ⟨_, rfl⟩
  have bV : Below U.heap.size U V := by rw [hV]; exact (Below.refl _ _).alloc (Nat.le_refl _) _
  have kV : Blk V U.heap.size #[.bool x0, .int .i64 x1, .int .i64 x2, .int .i64 x3] 134 := by rw [hV]; exact Blk.new _ _ _
  have hUs : U.heap.size = w.heap.size + 1 := by rw [hU]; simp
  have BV := bU.trans (bV.mono bU.size)
  have kU' := kU.below bV
  obtain ⟨gm, om, gb, ob, dn, dc, ba, bc, ha, ⟨m0, m1⟩, b1, b2, hcell, hrow⟩ := bank_at (h.m.below BV) hp hb
  have HRW := hide hrow
  have HFT := hide (And.intro f1 f2)
  have HRN := hide (fun (X : World) => l5Round_any (4 * M.cw) X (by omega) (by omega))
  rw [← (slz_eq w0 w1).1] at HRN
  have hmk := make8 (slz M.cw) (by omega)
  have HDE := hide (show bkb (pmS M.ms) M.cw x1 x2 = pour (List.replicate (slz M.cw) 0) 0 (bnk (pmS M.ms) x1 x2) (bnk (pmS M.ms) x1 x2).length from rfl)
  have hmx := h.m.s.2.1
  unfold maxLen at hmx
  have HC := hide (fun (X : World) (hX : Below V.heap.size V X) => show (X.cell? ⟨w.heap.size, 0, none⟩ = some (.slice M.ma M.mn M.mc) ∧ X.cell? ⟨w.heap.size, 1, none⟩ = some (.int .i64 M.cs) ∧ X.cell? ⟨w.heap.size, 2, none⟩ = some (.int .i64 M.cw) ∧ X.cell? ⟨w.heap.size, 3, none⟩ = some (.int .i64 M.ck) ∧ X.cell? ⟨w.heap.size, 4, none⟩ = some (.int .i64 M.cd)) ∧ X.cell? ⟨w.heap.size + 1, 1, none⟩ = some (.int .i64 x1) ∧ X.cell? ⟨w.heap.size + 1, 2, none⟩ = some (.int .i64 x2) ∧ X.cell? ⟨gm, om + x1.toNat * 8 + 2, none⟩ = some (.slice (some ⟨gb, ob, none⟩) dn dc) ∧ X.cell? ⟨gb, ob + x2.toNat, none⟩ = some (.slice ba (bnk (pmS M.ms) x1 x2).length bc) from
    ⟨⟨(kU'.below hX).cell 0, (kU'.below hX).cell 1, (kU'.below hX).cell 2, (kU'.below hX).cell 3, (kU'.below hX).cell 4⟩, by rw [← hUs]; exact (kV.below hX).cell 1, by rw [← hUs]; exact (kV.below hX).cell 2, (hcell X hX).1, (hcell X hX).2⟩)
  have HBV := hide BV
  have HU := hide hU
  have HV := hide hV
  unfold BkB
  rw [HDE.out]
  generalize bnk (pmS M.ms) x1 x2 = ws at *
  generalize slz M.cw = sz at *
  rw [ha] at HC
  rw [← hUs] at HC
  clear hU hV bU bV kU kU' kV hcell hrow BV h hk hp z1 HDE hUs f1 f2
  have HA := hide ha
  clear ha
  obtain ⟨⟨y0, y1, y2, y3, y4⟩, s1, s2, u0, u1⟩ := HC.out V (Below.refl _ _)
  go_enter Tryz.func245, Tryz.ntmps245
  go_wp2_with (first | rw [← HU.out] | rw [← HV.out])
  refine (HRN.out _).mono ?_
  rintro e X1 ⟨rfl, hx1⟩
  have hb1 : Below V.heap.size V X1 := by rw [hx1]; exact Below.refl _ _
  clear hx1
  have HX1 := hide hb1
  obtain ⟨V2, hV2⟩ : ∃ V2, V2 = X1.alloc (.cells (zby sz) 5) := ⟨_, rfl⟩
  have b2' : Below X1.heap.size X1 V2 := by rw [hV2]; exact (Below.refl _ _).alloc (Nat.le_refl _) _
  have k2 : Blk V2 X1.heap.size (zby sz) 5 := by rw [hV2]; exact Blk.new _ _ _
  have B2 := hb1.trans (b2'.mono hb1.size)
  have HV2 := hide hV2
  have hg : w.heap.size ≤ X1.heap.size := by have h1 := HBV.out.size; have h2 := hb1.size; omega
  have HP := hide (fun (X : World) (hX : Below V2.heap.size V2 X) => (l5Pour_any X1.heap.size sz sz 0 ba ws.length bc ws (List.replicate sz 0) w.heap.size X1 X (HRW.out.below HX1.out) (b2'.trans (hX.mono b2'.size)) (Nat.le_refl _) ((zby_ob k2 hg (by omega)).below hX) (by omega) (by have := HFT.out.1; omega) HFT.out.2).mono (fun e w' he => show e = .returned (.tuple #[]) ∧ OB w' w.heap.size (.slice (some ⟨X1.heap.size, 0, none⟩) sz sz) (pour (List.replicate sz 0) 0 ws ws.length) ∧ Below V.heap.size V w' from ⟨he.1, he.2.1, HX1.out.trans ((only_below (b2'.trans (hX.mono b2'.size)) he.2.2 (Nat.le_refl _)).mono HX1.out.size)⟩))
  rw [show ((0 : Nat) : Int) = 0 from rfl] at HP
  have HB2 := hide B2
  clear y0 y1 y2 y3 y4 s1 s2 u0 u1 HRN HU HV
  obtain ⟨⟨y0, y1, y2, y3, y4⟩, s1, s2, u0, u1⟩ := HC.out V2 B2
  clear hb1 b2' k2 B2 hV2 hg
  go_wp2_with (rw [← HV2.out])
  go_region_held3 (fun w' => w'.cell? ⟨w.heap.size, 0, none⟩ = some (.slice (some ⟨gm, om, none⟩) M.mn M.mc) ∧ w'.cell? ⟨U.heap.size, 1, none⟩ = some (.int .i64 x1) ∧ w'.cell? ⟨U.heap.size, 2, none⟩ = some (.int .i64 x2) ∧ w'.cell? ⟨gm, om + x1.toNat * 8 + 2, none⟩ = some (.slice (some ⟨gb, ob, none⟩) dn dc) ∧ w'.cell? ⟨gb, ob + x2.toNat, none⟩ = some (.slice ba ws.length bc)) (go_keep)
    (first
      | (go_at_call 82; first
          | with_reducible refine (HP.out _ (Below.refl _ _)).mono ?_
          | with_reducible refine (HP.out _ (Below.refl _ _).drew).mono ?_
         rintro e w1 ⟨rfl, ho1, hb1⟩
         have HE := hide (And.intro ho1 hb1)
         obtain ⟨⟨p0, p1, p2, p3, p4⟩, t1, t2, v0, v1⟩ := HC.out w1 hb1
         clear ho1 hb1))
  clear y0 y1 y2 y3 y4 s1 s2 u0 u1 p0 p1 p2 p3 p4 t1 t2 v0 v1 HP HC
  go_wp2
  go_ret
  exact ⟨_, rfl, HE.out.1, HBV.out.trans (HE.out.2.mono HBV.out.size)⟩
set_option maxHeartbeats 8000000 in
theorem bankBytes_any (M : Mn) (x0 : Bool) (x1 x2 x3 : Int) (w : World) (h : MnD w M) (hk : lkc (pmS M.ms) M.cs M.cw M.ck M.cd = 0) (hs : 0 < M.cs) (hp : 0 ≤ pcq (pmS M.ms) x1 x2) (hb : 0 ≤ x2) :
    Calls Tryz.prog 239 #[.agg #[.slice M.ma M.mn M.mc, .int .i64 M.cs, .int .i64 M.cw, .int .i64 M.ck, .int .i64 M.cd, .int .i64 M.pc, .slice M.ka M.kn M.kc, .slice M.fa M.fn M.fc, .slice M.ra M.rn M.rc, .slice M.oa M.on M.oc, .int .i64 M.md, .int .i64 M.bk, .slice M.la M.ln M.lc, .slice M.ha M.hn M.hc, .int .i64 M.tn], .agg #[.bool x0, .int .i64 x1, .int .i64 x2, .int .i64 x3]] w (BkB w (pmS M.ms) M.cw x1 x2) := by
  obtain ⟨w0, w1⟩ : 1 ≤ M.cw ∧ M.cw ≤ 64 := by
    have h1 := (lkc_all.1 hk).1
    unfold cfo at h1
    simp at h1
    exact ⟨h1.2.2.1, h1.2.2.2.1⟩
  obtain ⟨f1, f2⟩ := bnk_fit hk hs hp hb
  obtain ⟨z1, z2, z3⟩ := slz_eq w0 w1
  obtain ⟨U, hU⟩ : ∃ U, U = w.alloc (.cells #[.slice M.ma M.mn M.mc, .int .i64 M.cs, .int .i64 M.cw, .int .i64 M.ck, .int .i64 M.cd, .int .i64 M.pc, .slice M.ka M.kn M.kc, .slice M.fa M.fn M.fc, .slice M.ra M.rn M.rc, .slice M.oa M.on M.oc, .int .i64 M.md, .int .i64 M.bk, .slice M.la M.ln M.lc, .slice M.ha M.hn M.hc, .int .i64 M.tn] 54) := ⟨_, rfl⟩
  have bU : Below w.heap.size w U := by rw [hU]; exact (Below.refl _ _).alloc (Nat.le_refl _) _
  have kU : Blk U w.heap.size #[.slice M.ma M.mn M.mc, .int .i64 M.cs, .int .i64 M.cw, .int .i64 M.ck, .int .i64 M.cd, .int .i64 M.pc, .slice M.ka M.kn M.kc, .slice M.fa M.fn M.fc, .slice M.ra M.rn M.rc, .slice M.oa M.on M.oc, .int .i64 M.md, .int .i64 M.bk, .slice M.la M.ln M.lc, .slice M.ha M.hn M.hc, .int .i64 M.tn] 54 := by rw [hU]; exact Blk.new _ _ _
  obtain ⟨V, hV⟩ : ∃ V, V = U.alloc (.cells #[.bool x0, .int .i64 x1, .int .i64 x2, .int .i64 x3] 134) := ⟨_, rfl⟩
  have bV : Below U.heap.size U V := by rw [hV]; exact (Below.refl _ _).alloc (Nat.le_refl _) _
  have kV : Blk V U.heap.size #[.bool x0, .int .i64 x1, .int .i64 x2, .int .i64 x3] 134 := by rw [hV]; exact Blk.new _ _ _
  have hUs : U.heap.size = w.heap.size + 1 := by rw [hU]; simp
  have BV := bU.trans (bV.mono bU.size)
  have kU' := kU.below bV
  obtain ⟨gm, om, gb, ob, dn, dc, ba, bc, ha, ⟨m0, m1⟩, b1, b2, hcell, hrow⟩ := bank_at (h.m.below BV) hp hb
  have HRW := hide hrow
  have HFT := hide (And.intro f1 f2)
  have HRN := hide (fun (X : World) => slotSize_any M.cs M.cw M.ck M.cd X w0 w1)
  have hmk := make8 (slz M.cw) (by omega)
  have HDE := hide (show bkb (pmS M.ms) M.cw x1 x2 = pour (List.replicate (slz M.cw) 0) 0 (bnk (pmS M.ms) x1 x2) (bnk (pmS M.ms) x1 x2).length from rfl)
  have hmx := h.m.s.2.1
  unfold maxLen at hmx
  have HC := hide (fun (X : World) (hX : Below V.heap.size V X) => show (X.cell? ⟨w.heap.size, 0, none⟩ = some (.slice M.ma M.mn M.mc) ∧ X.cell? ⟨w.heap.size, 1, none⟩ = some (.int .i64 M.cs) ∧ X.cell? ⟨w.heap.size, 2, none⟩ = some (.int .i64 M.cw) ∧ X.cell? ⟨w.heap.size, 3, none⟩ = some (.int .i64 M.ck) ∧ X.cell? ⟨w.heap.size, 4, none⟩ = some (.int .i64 M.cd)) ∧ X.cell? ⟨w.heap.size + 1, 1, none⟩ = some (.int .i64 x1) ∧ X.cell? ⟨w.heap.size + 1, 2, none⟩ = some (.int .i64 x2) ∧ X.cell? ⟨gm, om + x1.toNat * 8 + 2, none⟩ = some (.slice (some ⟨gb, ob, none⟩) dn dc) ∧ X.cell? ⟨gb, ob + x2.toNat, none⟩ = some (.slice ba (bnk (pmS M.ms) x1 x2).length bc) from
    ⟨⟨(kU'.below hX).cell 0, (kU'.below hX).cell 1, (kU'.below hX).cell 2, (kU'.below hX).cell 3, (kU'.below hX).cell 4⟩, by rw [← hUs]; exact (kV.below hX).cell 1, by rw [← hUs]; exact (kV.below hX).cell 2, (hcell X hX).1, (hcell X hX).2⟩)
  have HBV := hide BV
  have HU := hide hU
  have HV := hide hV
  unfold BkB
  rw [HDE.out]
  generalize bnk (pmS M.ms) x1 x2 = ws at *
  generalize slz M.cw = sz at *
  rw [ha] at HC
  rw [← hUs] at HC
  clear hU hV bU bV kU kU' kV hcell hrow BV h hk hp z1 HDE hUs f1 f2
  have HA := hide ha
  clear ha
  obtain ⟨⟨y0, y1, y2, y3, y4⟩, s1, s2, u0, u1⟩ := HC.out V (Below.refl _ _)
  go_enter Tryz.func239, Tryz.ntmps239
  go_wp2_with (first | rw [← HU.out] | rw [← HV.out])
  refine (HRN.out _).mono ?_
  rintro e X1 ⟨rfl, hb1⟩
  have HX1 := hide hb1
  obtain ⟨V2, hV2⟩ : ∃ V2, V2 = X1.alloc (.cells (zby sz) 5) := ⟨_, rfl⟩
  have b2' : Below X1.heap.size X1 V2 := by rw [hV2]; exact (Below.refl _ _).alloc (Nat.le_refl _) _
  have k2 : Blk V2 X1.heap.size (zby sz) 5 := by rw [hV2]; exact Blk.new _ _ _
  have B2 := hb1.trans (b2'.mono hb1.size)
  have HV2 := hide hV2
  have hg : w.heap.size ≤ X1.heap.size := by have h1 := HBV.out.size; have h2 := hb1.size; omega
  have HP := hide (fun (X : World) (hX : Below V2.heap.size V2 X) => (putWords_any X1.heap.size sz sz 0 sz sz ba ws.length bc ws (List.replicate sz 0) w.heap.size X1 X (HRW.out.below HX1.out) (b2'.trans (hX.mono b2'.size)) (Nat.le_refl _) ((zby_ob k2 hg (by omega)).below hX) (by omega) (by have := HFT.out.1; omega) (by have := HFT.out.1; omega) (Nat.le_refl _) (by omega)).mono (fun e w' he => show e = .returned (.tuple #[]) ∧ OB w' w.heap.size (.slice (some ⟨X1.heap.size, 0, none⟩) sz sz) (pour (List.replicate sz 0) 0 ws ws.length) ∧ Below V.heap.size V w' from ⟨he.1, he.2.1, HX1.out.trans ((only_below (b2'.trans (hX.mono b2'.size)) he.2.2 (Nat.le_refl _)).mono HX1.out.size)⟩))
  have HB2 := hide B2
  clear y0 y1 y2 y3 y4 s1 s2 u0 u1 HRN HU HV
  obtain ⟨⟨y0, y1, y2, y3, y4⟩, s1, s2, u0, u1⟩ := HC.out V2 B2
  clear hb1 b2' k2 B2 hV2 hg
  go_wp2_with (rw [← HV2.out])
  go_region_held3 (fun w' => w'.cell? ⟨w.heap.size, 0, none⟩ = some (.slice (some ⟨gm, om, none⟩) M.mn M.mc) ∧ w'.cell? ⟨U.heap.size, 1, none⟩ = some (.int .i64 x1) ∧ w'.cell? ⟨U.heap.size, 2, none⟩ = some (.int .i64 x2) ∧ w'.cell? ⟨gm, om + x1.toNat * 8 + 2, none⟩ = some (.slice (some ⟨gb, ob, none⟩) dn dc) ∧ w'.cell? ⟨gb, ob + x2.toNat, none⟩ = some (.slice ba ws.length bc)) (go_keep)
    (first
      | (go_at_call 178; first
          | with_reducible refine (HP.out _ (Below.refl _ _)).mono ?_
          | with_reducible refine (HP.out _ (Below.refl _ _).drew).mono ?_
         rintro e w1 ⟨rfl, ho1, hb1⟩
         have HE := hide (And.intro ho1 hb1)
         obtain ⟨⟨p0, p1, p2, p3, p4⟩, t1, t2, v0, v1⟩ := HC.out w1 hb1
         clear ho1 hb1))
  clear y0 y1 y2 y3 y4 s1 s2 u0 u1 p0 p1 p2 p3 p4 t1 t2 v0 v1 HP HC
  go_wp2
  go_ret
  exact ⟨_, rfl, HE.out.1, HBV.out.trans (HE.out.2.mono HBV.out.size)⟩
theorem slt_in {ps : List PMod} {s c k d : Int} (h : lkc ps s c k d = 0) {i : Nat} (hi : i < (lkL ps s c k d).slots.length) : 65536 ≤ (lkL ps s c k d).slots.getD i 0 ∧ (lkL ps s c k d).slots.getD i 0 - 65536 + (slz c : Int) ≤ (lkL ps s c k d).ram ∧ (lkL ps s c k d).ram ≤ 16384 ∧ ((lkL ps s c k d).slots.length : Int) = s ∧ 0 < s := by
  have e : lkL ps s c k d = lay ps s c k := by unfold lkL; rw [if_pos h]
  rw [e] at hi ⊢
  obtain ⟨h1, h2, h3, h4, h5, h6, h7, h8, h9⟩ := lkc_all.1 h
  unfold cfo at h1
  simp at h1
  obtain ⟨s0, s1, w0, w1, k0, _⟩ := h1
  obtain ⟨z1, z2, z3⟩ := slz_eq w0 w1
  have a1 := Ra_range h4 ps.length (Nat.le_refl _)
  have hl : (lay ps s c k).slots.length = s.toNat := by simp [lay]
  rw [hl] at hi
  have e2 : (lay ps s c k).slots.getD i 0 = 65536 + Ra ps ps.length + k + (i : Int) * rnd (4 * c) := by
    simp [lay, List.getD_eq_getElem?_getD, hi, slt]
  have e3 : (lay ps s c k).ram = Ra ps ps.length + k + (s.toNat : Int) * rnd (4 * c) := rfl
  have hm : (i : Int) * rnd (4 * c) + rnd (4 * c) ≤ (s.toNat : Int) * rnd (4 * c) := by
    have : ((i : Int) + 1) * rnd (4 * c) ≤ (s.toNat : Int) * rnd (4 * c) := Int.mul_le_mul_of_nonneg_right (by omega) (by omega)
    rw [Int.add_mul, Int.one_mul] at this
    exact this
  have hm0 : (0 : Int) ≤ (i : Int) * rnd (4 * c) := Int.mul_nonneg (by omega) (by omega)
  rw [e2, z1]
  exact ⟨by omega, by omega, h9, by omega, by omega⟩
set_option maxHeartbeats 8000000 in
theorem slotBytes_any (M : Mn) (L : Lay) (a0 : Option Addr) (c0 : Nat) (xs : List PB) (a2 : Option Addr) (c2 : Nat) (a5 : Option Addr) (c5 : Nat) (ts : List TB) (i : Nat) (w : World) (h : MnD w M) (hs : IS w a2 L.slots.length c2 L.slots) (hi : i < L.slots.length) (w0 : 1 ≤ M.cw) (w1 : M.cw ≤ 64) (hA0 : 65536 ≤ L.slots.getD i 0) (hA1 : L.slots.getD i 0 - 65536 + (slz M.cw : Int) ≤ M.rn) (hrn : M.rn ≤ 16384) :
    Calls Tryz.prog 238 #[.agg #[.slice M.ma M.mn M.mc, .int .i64 M.cs, .int .i64 M.cw, .int .i64 M.ck, .int .i64 M.cd, .int .i64 M.pc, .slice M.ka M.kn M.kc, .slice M.fa M.fn M.fc, .slice M.ra M.rn M.rc, .slice M.oa M.on M.oc, .int .i64 M.md, .int .i64 M.bk, .slice M.la M.ln M.lc, .slice M.ha M.hn M.hc, .int .i64 M.tn], .agg #[.slice a0 xs.length c0, .int .i64 L.stack, .slice a2 L.slots.length c2, .int .i64 L.flash, .int .i64 L.ram, .slice a5 ts.length c5], .int .i64 i] w fun e w' => ∃ a c, e = .returned (.slice a (slz M.cw) c) ∧ BS w' a (slz M.cw) c (slb M.rz L M.cw i) ∧ Below w.heap.size w w' := by
  obtain ⟨z1, z2, z3⟩ := slz_eq w0 w1
  obtain ⟨U, hU⟩ : ∃ U, U = w.alloc (.cells #[.slice M.ma M.mn M.mc, .int .i64 M.cs, .int .i64 M.cw, .int .i64 M.ck, .int .i64 M.cd, .int .i64 M.pc, .slice M.ka M.kn M.kc, .slice M.fa M.fn M.fc, .slice M.ra M.rn M.rc, .slice M.oa M.on M.oc, .int .i64 M.md, .int .i64 M.bk, .slice M.la M.ln M.lc, .slice M.ha M.hn M.hc, .int .i64 M.tn] 54) := ⟨_, rfl⟩
  have bU : Below w.heap.size w U := by rw [hU]; exact (Below.refl _ _).alloc (Nat.le_refl _) _
  have kU : Blk U w.heap.size #[.slice M.ma M.mn M.mc, .int .i64 M.cs, .int .i64 M.cw, .int .i64 M.ck, .int .i64 M.cd, .int .i64 M.pc, .slice M.ka M.kn M.kc, .slice M.fa M.fn M.fc, .slice M.ra M.rn M.rc, .slice M.oa M.on M.oc, .int .i64 M.md, .int .i64 M.bk, .slice M.la M.ln M.lc, .slice M.ha M.hn M.hc, .int .i64 M.tn] 54 := by rw [hU]; exact Blk.new _ _ _
  obtain ⟨V, hV⟩ : ∃ V, V = U.alloc (.cells #[.slice a0 xs.length c0, .int .i64 L.stack, .slice a2 L.slots.length c2, .int .i64 L.flash, .int .i64 L.ram, .slice a5 ts.length c5] 36) := ⟨_, rfl⟩
  have bV : Below U.heap.size U V := by rw [hV]; exact (Below.refl _ _).alloc (Nat.le_refl _) _
  have kV : Blk V U.heap.size #[.slice a0 xs.length c0, .int .i64 L.stack, .slice a2 L.slots.length c2, .int .i64 L.flash, .int .i64 L.ram, .slice a5 ts.length c5] 36 := by rw [hV]; exact Blk.new _ _ _
  have BV := bU.trans (bV.mono bU.size)
  have kU' := kU.below bV
  obtain ⟨gs, os, rfl, hcs⟩ := (hs.below BV).2.2.2.1 (by omega)
  have q := hcs i hi
  obtain ⟨A, hA⟩ : ∃ A : Nat, L.slots.getD i 0 = 65536 + (A : Int) := ⟨(L.slots.getD i 0 - 65536).toNat, by omega⟩
  have HSB := hide (show slb M.rz L M.cw i = (M.rz.drop A).take (slz M.cw) from by unfold slb; rw [hA, show (65536 + (A : Int) - 65536).toNat = A by omega])
  rw [hA] at q hA1
  have hrc := h.r.2.2.2.2
  have hrm := h.r.2.1
  have hi' : (i : Int) < (L.slots.length : Int) := by omega
  have hlm := hs.2.1
  unfold maxLen at hrm hlm
  have HSS := hide (fun (X : World) => slotSize_any M.cs M.cw M.ck M.cd X w0 w1)
  have HR := hide (fun (X : World) (hX : Below V.heap.size V X) => (h.r.below BV).below hX)
  have HC := hide (fun (X : World) (hX : Below V.heap.size V X) => show X.cell? ⟨w.heap.size, 1, none⟩ = some (.int .i64 M.cs) ∧ X.cell? ⟨w.heap.size, 2, none⟩ = some (.int .i64 M.cw) ∧ X.cell? ⟨w.heap.size, 3, none⟩ = some (.int .i64 M.ck) ∧ X.cell? ⟨w.heap.size, 4, none⟩ = some (.int .i64 M.cd) ∧ X.cell? ⟨w.heap.size, 8, none⟩ = some (.slice M.ra M.rn M.rc) from
    ⟨(kU'.below hX).cell 1, (kU'.below hX).cell 2, (kU'.below hX).cell 3, (kU'.below hX).cell 4, (kU'.below hX).cell 8⟩)
  have s2 : V.cell? ⟨U.heap.size, 2, none⟩ = some (.slice (some ⟨gs, os, none⟩) L.slots.length c2) := kV.cell 2
  rw [HSB.out]
  generalize slz M.cw = sz at *
  generalize hrr : M.ra = ra at *
  generalize hrcc : M.rc = rc at *
  obtain ⟨rb, ro, rfl, _⟩ := (HR.out V (Below.refl _ _)).2.2.2.1 (by omega)
  obtain ⟨E, hE⟩ : ∃ E : Nat, E = A + sz := ⟨_, rfl⟩
  have HBS := hide (fun (X : World) (hX : Below V.heap.size V X) => show BS X (some ⟨rb, ro + A, none⟩) (E - A) (rc - A) ((M.rz.drop A).take sz) from by
    have h1 := ((HR.out X hX).drop A (by omega)).take sz (by omega)
    rw [show E - A = sz by omega]
    exact h1)
  have HES := hide (show E - A = sz by omega)
  have hwA : IntKind.i64.wrap (65536 + (A : Int) - 65536) = (A : Int) := by rw [IntWalk.i64_left, IntWalk.wrap64_in _ (by omega)]; omega
  have hwA2 : IntKind.i64.wrap (A : Int) = (A : Int) := by rw [IntWalk.i64_left, IntWalk.wrap64_in _ (by omega)]
  have hwE : IntKind.i64.wrap ((A : Int) + (sz : Int)) = (E : Int) := by rw [IntWalk.i64_left, IntWalk.wrap64_in _ (by omega)]; omega
  have g0 : (0 : Int) ≤ (A : Int) := by omega
  have g1 : (A : Int) ≤ (E : Int) := by omega
  have g2 : (E : Int) ≤ (rc : Int) := by omega
  have g3 : (A : Int) < (rc : Int) := by omega
  have g4 : A ≤ E := by omega
  have g5 : ¬ (rc = A) := by omega
  have g6 : A < rc := by omega
  have HBV := hide BV
  have HU := hide hU
  have HV := hide hV
  have HX0 := hide (And.intro hrr hrcc)
  obtain ⟨y1, y2, y3, y4, y8⟩ := HC.out V (Below.refl _ _)
  clear hU hV bU bV kU kU' kV BV h hs hcs hA hE hrr hrcc HSB HR hrc hA0 hA1 z1 z3
  go_enter Tryz.func238, Tryz.ntmps238
  go_wp2_with (first | rw [← HU.out] | rw [← HV.out])
  have HP := hide (fun (X : World) (hX : Below V.heap.size V X) => (HSS.out X).mono (fun e w' he => show e = .returned (.int .i64 sz) ∧ Below V.heap.size V w' from ⟨he.1, hX.trans (he.2.mono hX.size)⟩))
  clear s2 q
  go_region_held3 (fun w' => w'.cell? ⟨w.heap.size, 1, none⟩ = some (.int .i64 M.cs) ∧ w'.cell? ⟨w.heap.size, 2, none⟩ = some (.int .i64 M.cw) ∧ w'.cell? ⟨w.heap.size, 3, none⟩ = some (.int .i64 M.ck) ∧ w'.cell? ⟨w.heap.size, 4, none⟩ = some (.int .i64 M.cd) ∧ w'.cell? ⟨w.heap.size, 8, none⟩ = some (.slice (some ⟨rb, ro, none⟩) M.rn rc)) (go_keep)
    (first
      | (go_at_call 273; first
          | with_reducible refine (HP.out _ (Below.refl _ _)).mono ?_
          | with_reducible refine (HP.out _ (Below.refl _ _).drew).mono ?_
         rintro e w1 ⟨rfl, hb1⟩
         have HE := hide hb1
         obtain ⟨t1, t2, t3, t4, t8⟩ := HC.out w1 hb1
         clear hb1))
  clear y1 y2 y3 y4 y8 t1 t2 t3 t4 t8 HP HC
  go_wp2
  go_ret
  exact ⟨some ⟨rb, ro + A, none⟩, rc - A, by rw [← HES.out]; rfl, by have := HBS.out _ HE.out; rw [HES.out] at this; exact this, HBV.out.trans (HE.out.mono HBV.out.size)⟩
structure Pd (w0 w : World) (cm : Array Value) (g n base : Nat) (zs : List Int) (W : World) : Prop where
  be : Below w0.heap.size w0 W
  km : Blk W w.heap.size cm 104
  o : OB W base (.slice (some ⟨g, 0, none⟩) n n) zs
  t : Turn (fun j => j = g) w W
section
variable {w0 w : World} {cm : Array Value} {g n base : Nat} {zs : List Int} {W W' : World}
theorem Pd.below (h : Pd w0 w cm g n base zs W) (hb : Below W.heap.size W W') : Pd w0 w cm g n base zs W' := ⟨h.be.trans (hb.mono h.be.size), h.km.below hb, h.o.below hb, h.t.trans (turn_below hb)⟩
theorem Pd.drew (h : Pd w0 w cm g n base zs W) : Pd w0 w cm g n base zs W.drew := h.below (Below.refl _ _).drew
theorem Pd.set (h : Pd w0 w cm g n base zs W) {zs' : List Int} (hg : w0.heap.size ≤ g) (O : OB W' base (.slice (some ⟨g, 0, none⟩) n n) zs') (T : Only g W W') : Pd w0 w cm g n base zs' W' := by
  obtain ⟨c1, k1⟩ := ob_blk h.o
  exact ⟨only_below h.be T hg, only_blk T h.km (fun e => absurd (blk_kind (show Blk W g cm 104 from e ▸ h.km) k1) (by decide)), O, h.t.trans (only_turn' T)⟩
end
theorem ob_sub {W : World} {base g n A : Nat} {zs : List Int} (h : OB W base (.slice (some ⟨g, 0, none⟩) n n) zs) (hA : A ≤ n) : BS W (some ⟨g, A, none⟩) (n - A) (n - A) (zs.drop A) := by
  have hl := (ob_row8 h).2.1
  have hm := (ob_row8 h).2.2.2
  have hb := h.bs
  refine ⟨by simp; omega, by omega, fun z hz => h.2 z (List.mem_of_mem_drop hz), fun _ => ⟨g, A, rfl, fun i hi => ?_⟩, Nat.le_refl _⟩
  have h1 := hb.at (A + i) (by omega)
  rw [Nat.zero_add] at h1
  rw [h1]
  congr 2
  simp [List.getD_eq_getElem?_getD, List.getElem?_drop]
set_option maxHeartbeats 8000000 in
theorem putData_any (g R f : Nat) (bp : Option Addr) (bl' : Nat) (nm : ByteArray) (ta : Option Addr) (tn tc : Nat) (ba : Option Addr) (bn bc : Nat) (da : Option Addr) (dn dc : Nat) (dz : List Int) (bss : Int) (ra : Option Addr) (rn rc : Nat) (rrz : List Int) (ia : Option Addr) (im ic : Nat) (ea : Option Addr) (en ec : Nat) (rz : List Int) (base : Nat) (w w0 : World) (hD : BS w0 da dn dc dz) (hRl : IS w0 ra rn rc rrz) (hb : Below w0.heap.size w0 w) (hg : w0.heap.size ≤ g) (ho : OB w base (.slice (some ⟨g, 0, none⟩) R R) rz) (hR : R ≤ 16384) (hrn : rn ≤ 16) (hfd : f + dn ≤ R) (hrl : ∀ q, q < rn → 0 ≤ rrz.getD q 0 ∧ rrz.getD q 0 + 4 ≤ (dn : Int))
    (hbp : (f < R ∧ bp = some ⟨g, f, none⟩ ∧ bl' = R - f) ∨ (f = R ∧ bp = some ⟨g, 0, none⟩ ∧ bl' = 0)) :
    Calls Tryz.prog 87 #[.slice bp bl' bl', .agg #[.string nm, .slice ta tn tc, .slice ba bn bc, .slice da dn dc, .int .i64 bss, .slice ra rn rc, .slice ia im ic, .slice ea en ec], .int .i64 (65536 + (f : Int))] w fun e w' => e = .returned (.tuple #[]) ∧ OB w' base (.slice (some ⟨g, 0, none⟩) R R) (relB (ovr rz f dz) f rrz (65536 + (f : Int)) rn) ∧ Turn (fun j => j = g) w w' := by
  have bb : Below w.heap.size w (w.alloc (.cells #[.string nm, .slice ta tn tc, .slice ba bn bc, .slice da dn dc, .int .i64 bss, .slice ra rn rc, .slice ia im ic, .slice ea en ec] 104)) := (Below.refl _ _).alloc (Nat.le_refl _) _
  have S0 : Pd w0 w #[.string nm, .slice ta tn tc, .slice ba bn bc, .slice da dn dc, .int .i64 bss, .slice ra rn rc, .slice ia im ic, .slice ea en ec] g R base rz (w.alloc (.cells #[.string nm, .slice ta tn tc, .slice ba bn bc, .slice da dn dc, .int .i64 bss, .slice ra rn rc, .slice ia im ic, .slice ea en ec] 104)) := ⟨hb.trans (bb.mono hb.size), Blk.new _ _ _, ho.below bb, turn_below bb⟩
  have HBR := hide (And.intro hbp (And.intro hD (And.intro hRl hrl)))
  obtain ⟨w1, hrun, O1, T1⟩ := copy_run (f := f) S0.o 3 bp da bl' bl' dn dc (hD.below S0.be) (by rcases hbp with h | h <;> omega) (by omega) (fun h0 => by rcases hbp with h | h; exact h.2.1; omega)
  have HS1 := hide (S0.set hg O1 T1)
  have x3 := S0.km.cell 3
  simp only [List.getElem?_toArray, List.getElem?_cons_zero, List.getElem?_cons_succ] at x3
  clear O1 T1 S0 bb ho hb hD hRl hrl hbp
  obtain ⟨cm, hcm⟩ : ∃ cm : Array Value, cm = #[.string nm, .slice ta tn tc, .slice ba bn bc, .slice da dn dc, .int .i64 bss, .slice ra rn rc, .slice ia im ic, .slice ea en ec] := ⟨_, rfl⟩
  rw [← hcm] at HS1
  have HCL := hide (fun (zs : List Int) (X : World) (S : Pd w0 w cm g R base zs X) => show X.cell? ⟨w.heap.size, 5, none⟩ = some (.slice ra rn rc) from by
    have h1 := S.km
    rw [hcm] at h1
    exact h1.cell 5)
  clear hcm
  go_enter Tryz.func87, Tryz.ntmps87
  have z5 := HCL.out _ _ HS1.out
  go_wp2
  clear hrun x3 z5
  go_loopw [15] (fun i wr => ∃ q : Nat, q ≤ rn ∧ i = .int .i64 q ∧ Pd w0 w cm g R base (relB (ovr rz f dz) f rrz (65536 + (f : Int)) q) wr) (fun i _ => rn - (intOf i).toNat)
  case atStart => exact ⟨0, Nat.zero_le _, rfl, HS1.out⟩
  case round =>
    clear HS1
    obtain ⟨q, hq, rfl, hQ⟩ := hrel
    generalize wr = wq at *
    have HQ := hide hQ
    by_cases hqr : q < rn
    · have hqr' : (q : Int) < (rn : Int) := by omega
      obtain ⟨hbp, hD, hRl, hrl⟩ := HBR.out
      obtain ⟨rb, ro, rfl, hrc⟩ := hRl.2.2.2.1 (show rn ≠ 0 by omega)
      obtain ⟨h1, h2⟩ := hrl q hqr
      have hfR : f < R := by omega
      obtain ⟨_, hb1, hb2⟩ : f < R ∧ bp = some ⟨g, f, none⟩ ∧ bl' = R - f := by rcases hbp with h | h; exact h; omega
      subst hb1 hb2
      have s6 := cell_below hQ.be (hrc q hqr)
      have HRE := hide (show relB (ovr rz f dz) f rrz (65536 + (f : Int)) (q + 1) = put (relB (ovr rz f dz) f rrz (65536 + (f : Int)) q) (f + (rrz.getD q 0).toNat) (low (((relB (ovr rz f dz) f rrz (65536 + (f : Int)) q).drop (f + (rrz.getD q 0).toNat)).take 4) + (65536 + (f : Int))) 4 from rfl)
      clear hrc hQ hD hRl hrl hbp
      generalize hRQ1 : relB (ovr rz f dz) f rrz (65536 + (f : Int)) (q + 1) = RQ1 at HRE
      have HRQ1 := hide hRQ1
      clear hRQ1
      generalize relB (ovr rz f dz) f rrz (65536 + (f : Int)) q = RQ at *
      obtain ⟨x, hx⟩ : ∃ x : Nat, rrz.getD q 0 = (x : Int) := ⟨(rrz.getD q 0).toNat, by omega⟩
      rw [hx] at s6 HRE h1 h2
      rw [Int.toNat_natCast] at HRE
      clear hx
      have HLR := hide (low_small ((RQ.drop (f + x)).take 4) (fun z hz => HQ.out.o.2 z (List.mem_of_mem_drop (List.mem_of_mem_take hz))) (by simp; omega))
      obtain ⟨lw, hlw⟩ : ∃ lw, lw = low ((RQ.drop (f + x)).take 4) := ⟨_, rfl⟩
      rw [← hlw] at HLR HRE
      obtain ⟨VV, hVV⟩ : ∃ VV, VV = lw + (65536 + (f : Int)) := ⟨_, rfl⟩
      rw [← hVV] at HRE
      have hwV : IntKind.i64.wrap (lw + (65536 + (f : Int))) = VV := by rw [hVV, IntWalk.i64_left, IntWalk.wrap64_in _ (by have := HLR.out; omega)]
      have HVR := hide (show -9223372036854775808 ≤ VV ∧ VV ≤ 9223372036854775807 by have := HLR.out; omega)
      have HGB := hide (fun (X : World) (S : Pd w0 w cm g R base RQ X) => show Calls Tryz.prog 180 #[.slice (some ⟨g, f + x, none⟩) (R - f - x) (R - f - x), .int .i64 4] X fun e w' => e = .returned (.int .i64 lw) ∧ Pd w0 w cm g R base RQ w' from by
        have hbs := ob_sub S.o (show f + x ≤ R by omega)
        rw [show R - (f + x) = R - f - x by omega] at hbs
        have := getBytes_4 g (f + x) (R - f - x) (R - f - x) _ X hbs (by omega)
        rw [← hlw] at this
        exact this.mono (fun e w' he => ⟨he.1, S.below he.2⟩))
      have HPB := hide (fun (X : World) (S : Pd w0 w cm g R base RQ X) => show Calls Tryz.prog 179 #[.slice (some ⟨g, f + x, none⟩) (R - f - x) (R - f - x), .int .i64 4, .int .i64 VV] X fun e w' => e = .returned (.tuple #[]) ∧ Pd w0 w cm g R base RQ1 w' from
        (putBytes_4 g (R - f - x) (R - f - x) (f + x) VV X (ob_room2 S.o (by omega)) (by omega) HVR.out).mono (fun e w' he => ⟨he.1, by
          rw [he.2, HRE.out]
          exact S.set hg (ob_putD4 S.o (f + x) VV (by omega)) (only_putD4 g (f + x) VV X)⟩))
      have t0 : (0 : Int) ≤ (x : Int) := by omega
      have t1 : (x : Int) ≤ ((R - f : Nat) : Int) := by omega
      have t2 : (x : Int) < ((R - f : Nat) : Int) := by omega
      have t3 : ¬ (R - f = x) := by omega
      have t4 : x ≤ R - f := by omega
      have t5 : x < R - f := by omega
      clear hlw hVV h1 h2
      go_wp2_with fail
      go_region_held3 (fun w' => True) (exact True.intro)
        (first
          | (go_at_call 180; first
              | with_reducible refine (HGB.out _ HQ.out).mono ?_
              | with_reducible refine (HGB.out _ HQ.out.drew).mono ?_
             rintro e w5 ⟨rfl, hS5⟩
             have HS5 := hide hS5
             clear hS5)
          | (go_at_call 179; first
              | with_reducible refine (HPB.out _ HS5.out).mono ?_
              | (rw [hwV]; with_reducible refine (HPB.out _ HS5.out).mono ?_)
             rintro e w6 ⟨rfl, hS6⟩
             have HS6 := hide hS6
             clear hS6))
      clear hwV s6
      go_wp2
      go_roundw
      case rel => exact ⟨q + 1, by omega, by go_num, by rw [HRQ1.out]; exact HS6.out⟩
      case measure => simp [intOf]; omega
    · have e : Hid (q = rn) := by show q = rn; omega
      clear hQ
      go_wp2
      go_end0
      exact ⟨rfl, by rw [← e.out]; exact HQ.out.o, HQ.out.t⟩
end Go.Proofs.YtngdgogjlpjjpaeGreat
