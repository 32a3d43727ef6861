import Derived.Test.YtngdgogjlpjjpaeGreatP28
namespace Go.Proofs.YtngdgogjlpjjpaeGreat
open Go.RowKit Classical
set_option linter.unusedVariables false
set_option linter.unusedSimpArgs false
set_option maxRecDepth 100000
def Yn (P : Prop) (w : World) (e : Ending) (w' : World) : Prop := ∃ r : Bool, e = .returned (.bool r) ∧ (r = true ↔ P) ∧ Below w.heap.size w w'
theorem yn_t {P : Prop} {w w' : World} (h : P) (hb : Below w.heap.size w w') : Yn P w (.returned (.bool true)) w' := ⟨true, rfl, by simp [h], hb⟩
theorem yn_f {P : Prop} {w w' : World} (h : ¬ P) (hb : Below w.heap.size w w') : Yn P w (.returned (.bool false)) w' := ⟨false, rfl, by simp [h], hb⟩
theorem yn_d {P Q : Prop} [Decidable Q] {w w' : World} (h : Q ↔ P) (hb : Below w.heap.size w w') : Yn P w (.returned (.bool (decide Q))) w' := ⟨_, rfl, by simp [h], hb⟩
theorem pcq_in {w : World} {a : Option Addr} {n cap : Nat} {ms : List Md} (h : MSD w a n cap ms) {m b : Int} (hp : 0 ≤ pcq (pmS ms) m b) : (0 ≤ m ∧ m < (n : Int)) ∧ pcn (ms.getD m.toNat zMd).tn (ms.getD m.toNat zMd).bn (ms.getD m.toNat zMd).bl b = pcq (pmS ms) m b := by
  have hn := h.s.1
  rw [← pcm_pcq h] at hp ⊢
  unfold pcm at hp ⊢
  rw [hn] at hp ⊢
  by_cases c : 0 ≤ m ∧ m < (n : Int)
  · exact ⟨c, by rw [if_pos c]⟩
  · rw [if_neg c] at hp; exact absurd hp (by decide)
theorem pieceOf_q {w : World} {a : Option Addr} {n cap : Nat} {ms : List Md} (h : MSD w a n cap ms) {m b : Int} (hp : 0 ≤ pcq (pmS ms) m b) {M : Md} (hM : ms.getD m.toNat zMd = M) (X : World) (hX : Below w.heap.size w X) : Calls Tryz.prog 182 #[.agg #[.string M.nm, .slice M.ta M.tn M.tc, .slice M.ba M.bn M.bc, .slice M.da M.dn M.dc, .int .i64 M.bss, .slice M.ra M.rn M.rc, .slice M.ia M.im M.ic, .slice M.ea M.en M.ec], .int .i64 b] X (fun e w' => ∃ xa xn xc, e = .returned (.tuple #[.slice xa xn xc, .bool true]) ∧ (xn : Int) = pcq (pmS ms) m b ∧ Below w.heap.size w w') := by
  obtain ⟨⟨h0, h1⟩, hq⟩ := pcq_in h hp
  have hmt := h.s.2.2.2.1 m.toNat (by omega)
  rw [hM] at hmt hq
  refine (pieceOf_any M.nm M.ta M.tn M.tc M.ba M.bn M.bc M.bl (.slice M.da M.dn M.dc) (.slice M.ra M.rn M.rc) (.slice M.ia M.im M.ic) (.slice M.ea M.en M.ec) M.bss b X hmt.t.2.1 (hmt.b.below hX)).mono fun e w' ⟨xa, xn, xc, ok, he, ho, hx, _, hb⟩ => ?_
  have ho' : ok = true := by rw [ho, hq]; simp; omega
  exact ⟨xa, xn, xc, by rw [he, ho'], by rw [hx ho', hq], hX.trans (hb.mono hX.size)⟩
theorem l4Piece_q {w : World} {a : Option Addr} {n cap : Nat} {ms : List Md} (h : MSD w a n cap ms) {m b : Int} (hp : 0 ≤ pcq (pmS ms) m b) {M : Md} (hM : ms.getD m.toNat zMd = M) (X : World) (hX : Below w.heap.size w X) : Calls Tryz.prog 133 #[.agg #[.string M.nm, .slice M.ta M.tn M.tc, .slice M.ba M.bn M.bc, .slice M.da M.dn M.dc, .int .i64 M.bss, .slice M.ra M.rn M.rc, .slice M.ia M.im M.ic, .slice M.ea M.en M.ec], .int .i64 b] X (fun e w' => ∃ xa xn xc, e = .returned (.tuple #[.slice xa xn xc, .bool true]) ∧ (xn : Int) = pcq (pmS ms) m b ∧ Below w.heap.size w w') := by
  obtain ⟨⟨h0, h1⟩, hq⟩ := pcq_in h hp
  have hmt := h.s.2.2.2.1 m.toNat (by omega)
  rw [hM] at hmt hq
  refine (l4Piece_any M.nm M.ta M.tn M.tc M.ba M.bn M.bc M.bl (.slice M.da M.dn M.dc) (.slice M.ra M.rn M.rc) (.slice M.ia M.im M.ic) (.slice M.ea M.en M.ec) M.bss b X hmt.t.2.1 (hmt.b.below hX)).mono fun e w' ⟨xa, xn, xc, ok, he, ho, hx, _, hb⟩ => ?_
  have ho' : ok = true := by rw [ho, hq]; simp; omega
  exact ⟨xa, xn, xc, by rw [he, ho'], by rw [hx ho', hq], hX.trans (hb.mono hX.size)⟩
set_option maxHeartbeats 4000000 in
theorem targetOk_any (a : Option Addr) (n cap : Nat) (ms : List Md) (m b t : Int) (w : World) (h : MSD w a n cap ms) :
    Calls Tryz.prog 241 #[.slice a n cap, .agg #[.int .i64 m, .int .i64 b, .int .i64 t]] w fun e w' => e = .returned (.bool (decide (tgk (pmS ms) m b t))) ∧ Below w.heap.size w w' := by
  obtain ⟨V, hV⟩ : ∃ V, V = w.alloc (.cells #[.int .i64 m, .int .i64 b, .int .i64 t] 71) := ⟨_, rfl⟩
  have bV : Below w.heap.size w V := by rw [hV]; exact (Below.refl _ _).alloc (Nat.le_refl _) _
  have kV : Blk V w.heap.size #[.int .i64 m, .int .i64 b, .int .i64 t] 71 := by rw [hV]; exact Blk.new _ _ _
  have HIP := hide (isPiece_any a n cap ms m b V (h.s.below bV))
  rw [pcm_pcq h m b] at HIP
  have HV := hide hV
  have HK := hide (And.intro bV kV)
  obtain ⟨r, hr⟩ : ∃ r, r = decide (tgk (pmS ms) m b t) := ⟨_, rfl⟩
  rw [← hr]
  have HR := hide hr
  have hmx := h.s.2.1
  unfold maxLen at hmx
  clear hV hr
  by_cases c : 0 ≤ pcq (pmS ms) m b
  · rw [decide_eq_true c] at HIP
    obtain ⟨⟨m0, m1⟩, _⟩ := pcq_in h c
    obtain ⟨gm, om, rfl, v0, v1, v2, v3, v4, v5, v6, v7⟩ := (h.s.below bV).at m.toNat (by omega)
    have HPC := hide (fun (M : Md) (hM : ms.getD m.toNat zMd = M) (X : World) (hX : Below V.heap.size V X) => (pieceOf_q (h.below bV) c hM X hX))
    obtain ⟨M, hM⟩ : ∃ M, M = ms.getD m.toNat zMd := ⟨_, rfl⟩
    rw [← hM] at v0 v1 v2 v3 v4 v5 v6 v7
    have HP := hide (HPC.out M hM.symm)
    have HRQ := hide (show r = decide (0 ≤ t ∧ t ≤ pcq (pmS ms) m b) from by rw [HR.out]; unfold tgk; simp [c])
    clear HR
    generalize pcq (pmS ms) m b = q at *
    have HC := hide (fun (X : World) (hX : Below V.heap.size V X) => show (X.cell? ⟨w.heap.size, 0, none⟩ = some (.int .i64 m) ∧ X.cell? ⟨w.heap.size, 1, none⟩ = some (.int .i64 b) ∧ X.cell? ⟨w.heap.size, 2, none⟩ = some (.int .i64 t)) ∧ X.cell? ⟨gm, om + m.toNat * 8, none⟩ = some (.string M.nm) ∧ X.cell? ⟨gm, om + m.toNat * 8 + 1, none⟩ = some (.slice M.ta M.tn M.tc) ∧ X.cell? ⟨gm, om + m.toNat * 8 + 2, none⟩ = some (.slice M.ba M.bn M.bc) ∧ X.cell? ⟨gm, om + m.toNat * 8 + 3, none⟩ = some (.slice M.da M.dn M.dc) ∧ X.cell? ⟨gm, om + m.toNat * 8 + 4, none⟩ = some (.int .i64 M.bss) ∧ X.cell? ⟨gm, om + m.toNat * 8 + 5, none⟩ = some (.slice M.ra M.rn M.rc) ∧ X.cell? ⟨gm, om + m.toNat * 8 + 6, none⟩ = some (.slice M.ia M.im M.ic) ∧ X.cell? ⟨gm, om + m.toNat * 8 + 7, none⟩ = some (.slice M.ea M.en M.ec) from
      ⟨⟨(kV.below hX).cell 0, (kV.below hX).cell 1, (kV.below hX).cell 2⟩, cell_below hX v0, cell_below hX v1, cell_below hX v2, cell_below hX v3, cell_below hX v4, cell_below hX v5, cell_below hX v6, cell_below hX v7⟩)
    clear HPC hM h bV kV c v0 v1 v2 v3 v4 v5 v6 v7
    obtain ⟨⟨x0, x1, x2⟩, _⟩ := HC.out V (Below.refl _ _)
    go_enter Tryz.func241, Tryz.ntmps241
    go_wp2_with (rw [← HV.out])
    refine HIP.out.mono ?_
    rintro e X1 ⟨rfl, hb1⟩
    have HX1 := hide hb1
    clear x0 x1 x2
    have HP2 := hide (fun (X : World) (hX : Below X1.heap.size X1 X) => (HP.out X (HX1.out.trans (hX.mono HX1.out.size))).mono (fun e w' he => show ∃ xa xn xc, e = .returned (.tuple #[.slice xa xn xc, .bool true]) ∧ (xn : Int) = q ∧ Below V.heap.size V w' from he))
    obtain ⟨⟨y0, y1, y2⟩, u0, u1, u2, u3, u4, u5, u6, u7⟩ := HC.out X1 hb1
    clear hb1 HIP HV HP
    go_wp2_with fail
    go_region_held3 (fun w' => w'.cell? ⟨w.heap.size, 0, none⟩ = some (.int .i64 m) ∧ w'.cell? ⟨w.heap.size, 1, none⟩ = some (.int .i64 b) ∧ w'.cell? ⟨gm, om + m.toNat * 8, none⟩ = some (.string M.nm) ∧ w'.cell? ⟨gm, om + m.toNat * 8 + 1, none⟩ = some (.slice M.ta M.tn M.tc) ∧ w'.cell? ⟨gm, om + m.toNat * 8 + 2, none⟩ = some (.slice M.ba M.bn M.bc) ∧ w'.cell? ⟨gm, om + m.toNat * 8 + 3, none⟩ = some (.slice M.da M.dn M.dc) ∧ w'.cell? ⟨gm, om + m.toNat * 8 + 4, none⟩ = some (.int .i64 M.bss) ∧ w'.cell? ⟨gm, om + m.toNat * 8 + 5, none⟩ = some (.slice M.ra M.rn M.rc) ∧ w'.cell? ⟨gm, om + m.toNat * 8 + 6, none⟩ = some (.slice M.ia M.im M.ic) ∧ w'.cell? ⟨gm, om + m.toNat * 8 + 7, none⟩ = some (.slice M.ea M.en M.ec)) (go_keep)
      (first
        | (go_at_call 182; first
            | with_reducible refine (HP2.out _ (Below.refl _ _)).mono ?_
            | with_reducible refine (HP2.out _ (Below.refl _ _).drew).mono ?_
           rintro e w1 ⟨xa, xn, xc, rfl, hxn, hb1⟩
           have HXN := hide hxn
           have HB1 := hide hb1
           obtain ⟨⟨z0, z1, z2⟩, t0, t1, t2, t3, t4, t5, t6, t7⟩ := HC.out w1 hb1
           clear hb1 hxn))
    clear y0 y1 y2 u0 u1 u2 u3 u4 u5 u6 u7 t0 t1 t2 t3 t4 t5 t6 t7 HP2 HC HX1
    have HU := hide (isUpTo_any t (xn : Int))
    go_wp2_with (go_at_call 165; refine (HU.out _).mono ?_; rintro e w2 ⟨rfl, rfl⟩)
    go_ret
    exact ⟨ret_bool (by rw [HRQ.out, HXN.out]; simp), HK.out.1.trans (HB1.out.mono HK.out.1.size)⟩
  · rw [decide_eq_false c] at HIP
    have e := hide (show r = false from by rw [HR.out]; exact decide_eq_false (fun k => c k.1))
    have x0 := kV.cell 0
    have x1 := kV.cell 1
    clear h bV kV
    go_enter Tryz.func241, Tryz.ntmps241
    go_wp2_with (rw [← HV.out])
    refine HIP.out.mono ?_
    rintro e X1 ⟨rfl, hb1⟩
    go_wp2
    go_ret
    exact ⟨ret_bool e.out.symm, HK.out.1.trans (hb1.mono HK.out.1.size)⟩
end Go.Proofs.YtngdgogjlpjjpaeGreat
