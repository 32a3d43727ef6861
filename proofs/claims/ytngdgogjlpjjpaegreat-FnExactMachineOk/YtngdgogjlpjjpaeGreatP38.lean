import Derived.Laws.AppendOwnNone
import Derived.Test.YtngdgogjlpjjpaeGreatP23
import Derived.Test.YtngdgogjlpjjpaeGreatP30
import Derived.Test.YtngdgogjlpjjpaeGreatP26
import Derived.Test.YtngdgogjlpjjpaeGreatP31
import Derived.Test.YtngdgogjlpjjpaeGreatP34
namespace Go.Proofs.YtngdgogjlpjjpaeGreat
open Go.RowKit Classical
set_option linter.unusedVariables false
set_option linter.unusedSimpArgs false
set_option maxRecDepth 100000
theorem frs_no {ps : List PMod} {cd : Int} {xs : List FrT} {k : Nat} (hk : k < xs.length) (h : ¬ frk ps (xs.getD k zFr)) : ¬ frsOk ps cd xs := fun f => h (f.2 k hk)
theorem frs_yes {ps : List PMod} {cd : Int} {xs : List FrT} {n k : Nat} (hl : xs.length = n) (h0 : (n : Int) ≤ cd) (hk : ¬ k < n) (h : ∀ i, i < k → frk ps (xs.getD i zFr)) : frsOk ps cd xs := ⟨by rw [hl]; exact h0, fun i hi => h i (by omega)⟩
theorem md_at {w : World} {a : Option Addr} {n cap : Nat} {ms : List Md} (h : MSD w a n cap ms) {m b : Int} (hp : 0 ≤ pcq (pmS ms) m b) : ∃ gm om D, a = some ⟨gm, om, none⟩ ∧ ms.getD m.toNat zMd = D ∧ (0 ≤ m ∧ m < (n : Int)) ∧ ∀ X, Below w.heap.size w X → X.cell? ⟨gm, om + m.toNat * 8, none⟩ = some (.string D.nm) ∧ X.cell? ⟨gm, om + m.toNat * 8 + 1, none⟩ = some (.slice D.ta D.tn D.tc) ∧ X.cell? ⟨gm, om + m.toNat * 8 + 2, none⟩ = some (.slice D.ba D.bn D.bc) ∧ X.cell? ⟨gm, om + m.toNat * 8 + 3, none⟩ = some (.slice D.da D.dn D.dc) ∧ X.cell? ⟨gm, om + m.toNat * 8 + 4, none⟩ = some (.int .i64 D.bss) ∧ X.cell? ⟨gm, om + m.toNat * 8 + 5, none⟩ = some (.slice D.ra D.rn D.rc) ∧ X.cell? ⟨gm, om + m.toNat * 8 + 6, none⟩ = some (.slice D.ia D.im D.ic) ∧ X.cell? ⟨gm, om + m.toNat * 8 + 7, none⟩ = some (.slice D.ea D.en D.ec) := by
  obtain ⟨⟨h0, h1⟩, _⟩ := pcq_in h hp
  obtain ⟨gm, om, rfl, v0, v1, v2, v3, v4, v5, v6, v7⟩ := h.s.at m.toNat (by omega)
  exact ⟨gm, om, _, rfl, rfl, ⟨h0, h1⟩, fun X hX => ⟨cell_below hX v0, cell_below hX v1, cell_below hX v2, cell_below hX v3, cell_below hX v4, cell_below hX v5, cell_below hX v6, cell_below hX v7⟩⟩
set_option maxHeartbeats 8000000 in
theorem l7FramesOk_any (M : Mn) (w : World) (h : MnD w M) :
    Calls Tryz.prog 197 #[.agg #[.slice M.ma M.mn M.mc, .int .i64 M.cs, .int .i64 M.cw, .int .i64 M.ck, .int .i64 M.cd, .int .i64 M.pc, .slice M.ka M.kn M.kc, .slice M.fa M.fn M.fc, .slice M.ra M.rn M.rc, .slice M.oa M.on M.oc, .int .i64 M.md, .int .i64 M.bk, .slice M.la M.ln M.lc, .slice M.ha M.hn M.hc, .int .i64 M.tn]] w (Yn (frsOk (pmS M.ms) M.cd M.hz) w) := by
  obtain ⟨V, hV⟩ : ∃ V, V = w.alloc (.cells #[.slice M.ma M.mn M.mc, .int .i64 M.cs, .int .i64 M.cw, .int .i64 M.ck, .int .i64 M.cd, .int .i64 M.pc, .slice M.ka M.kn M.kc, .slice M.fa M.fn M.fc, .slice M.ra M.rn M.rc, .slice M.oa M.on M.oc, .int .i64 M.md, .int .i64 M.bk, .slice M.la M.ln M.lc, .slice M.ha M.hn M.hc, .int .i64 M.tn] 54) := ⟨_, rfl⟩
  have bV : Below w.heap.size w V := by rw [hV]; exact (Below.refl _ _).alloc (Nat.le_refl _) _
  have kV : Blk V w.heap.size #[.slice M.ma M.mn M.mc, .int .i64 M.cs, .int .i64 M.cw, .int .i64 M.ck, .int .i64 M.cd, .int .i64 M.pc, .slice M.ka M.kn M.kc, .slice M.fa M.fn M.fc, .slice M.ra M.rn M.rc, .slice M.oa M.on M.oc, .int .i64 M.md, .int .i64 M.bk, .slice M.la M.ln M.lc, .slice M.ha M.hn M.hc, .int .i64 M.tn] 54 := by rw [hV]; exact Blk.new _ _ _
  have hl := h.h.1
  have hmx := h.h.2.1
  have hmy := h.m.s.2.1
  unfold maxLen at hmx hmy
  have HD := hide (h.below bV)
  have HV := hide hV
  have HK := hide (And.intro bV kV)
  have HC := hide (fun (X : World) (hX : Below V.heap.size V X) => show X.cell? ⟨w.heap.size, 0, none⟩ = some (.slice M.ma M.mn M.mc) ∧ X.cell? ⟨w.heap.size, 4, none⟩ = some (.int .i64 M.cd) ∧ X.cell? ⟨w.heap.size, 13, none⟩ = some (.slice M.ha M.hn M.hc) from ⟨(kV.below hX).cell 0, (kV.below hX).cell 4, (kV.below hX).cell 13⟩)
  clear hV kV bV h
  by_cases c0 : M.cd < (M.hn : Int)
  · have HN := hide (show ¬ frsOk (pmS M.ms) M.cd M.hz from fun f => by have := f.1; omega)
    obtain ⟨y0, y4, y13⟩ := HC.out V (Below.refl _ _)
    go_enter Tryz.func197, Tryz.ntmps197
    go_wp2_with (rw [← HV.out])
    go_ret
    exact yn_f HN.out (HK.out.1)
  have c0' : (M.hn : Int) ≤ M.cd := by omega
  have HRE := hide (Below.refl V.heap.size V)
  obtain ⟨y0, y4, y13⟩ := HC.out V (Below.refl _ _)
  go_enter Tryz.func197, Tryz.ntmps197
  go_wp2_with (rw [← HV.out])
  clear y0 y4 y13
  go_loopw [3] (fun i wr => ∃ k : Nat, k ≤ M.hn ∧ i = .int .i64 k ∧ (∀ i, i < k → frk (pmS M.ms) (M.hz.getD i zFr)) ∧ Below V.heap.size V wr) (fun i _ => M.hn - (intOf i).toNat)
  case atStart => exact ⟨0, Nat.zero_le _, rfl, fun i hi => absurd hi (by omega), HRE.out⟩
  case round =>
    obtain ⟨k, hk, rfl, hF, hB⟩ := hrel
    obtain ⟨y0, y4, y13⟩ := HC.out wr hB
    have HB := hide hB
    by_cases hlt : k < M.hn
    · have hlt' : (k : Int) < (M.hn : Int) := by omega
      obtain ⟨g, f, hg, q0, q1, q2, q3⟩ := (HD.out.h.below hB).at k hlt _ _ _ _ rfl
      have HNO := hide (fun (q : ¬ frk (pmS M.ms) (M.hz.getD k zFr)) => frs_no (cd := M.cd) (show k < M.hz.length by omega) q)
      have HST := hide (fun (q : frk (pmS M.ms) (M.hz.getD k zFr)) (i : Nat) (hi : i < k + 1) => show frk (pmS M.ms) (M.hz.getD i zFr) from by
        by_cases e : i = k
        · rw [e]; exact q
        · exact hF i (by omega))
      generalize M.hz.getD k zFr = x at *
      obtain ⟨x0, x1, x2, x3⟩ := x
      dsimp only at q0 q1 q2 q3
      obtain ⟨U, hU⟩ : ∃ U, U = wr.alloc (.cells #[.int .i64 x0, .int .i64 x1, .int .i64 x2, .int .i64 x3] 136) := ⟨_, rfl⟩
      have bU : Below wr.heap.size wr U := by rw [hU]; exact (Below.refl _ _).alloc (Nat.le_refl _) _
      have kU : Blk U wr.heap.size #[.int .i64 x0, .int .i64 x1, .int .i64 x2, .int .i64 x3] 136 := by rw [hU]; exact Blk.new _ _ _
      have BU := hB.trans (bU.mono hB.size)
      have HTH := hide (l6There_any M.ma M.mn M.mc M.ms x0 x1 U (HD.out.m.s.below BU))
      rw [pcm_pcq HD.out.m x0 x1] at HTH
      have HBU := hide BU
      have HU := hide hU
      have HKU := hide kU
      rw [hg] at y13
      obtain ⟨j0, _, _⟩ := HC.out U BU
      have j1 := kU.cell 0
      have j2 := kU.cell 1
      clear hB hF hU kU bU BU hg
      by_cases c1 : 0 ≤ pcq (pmS M.ms) x0 x1
      · rw [decide_eq_true c1] at HTH
        obtain ⟨gm, om, D, ha, hD, ⟨m0, m1⟩, hcell⟩ := md_at (HD.out.m.below HBU.out) c1
        have HP := hide (fun (X : World) (hX : Below U.heap.size U X) => l4Piece_q (HD.out.m.below HBU.out) c1 hD X hX)
        have HMC := hide (fun (X : World) (hX : Below U.heap.size U X) => And.intro (hcell X hX) (And.intro (HC.out X (HBU.out.trans (hX.mono HBU.out.size))).1 (And.intro ((HKU.out.below hX).cell 0) (And.intro ((HKU.out.below hX).cell 1) (And.intro ((HKU.out.below hX).cell 2) ((HKU.out.below hX).cell 3))))))
        have HFK := hide (show frk (pmS M.ms) (x0, x1, x2, x3) ↔ (0 ≤ x2 ∧ x2 ≤ pcq (pmS M.ms) x0 x1) ∧ 0 ≤ x3 ∧ x3 ≤ 4294967295 from by unfold frk tgk; simp [c1])
        generalize pcq (pmS M.ms) x0 x1 = q at *
        rw [ha] at y0 j0 HTH
        have HA := hide ha
        clear hcell hD c1 ha
        go_wp2_with (rw [← HU.out])
        refine HTH.out.mono ?_
        rintro e X1 ⟨rfl, hb1⟩
        obtain ⟨⟨u0, u1, u2, u3, u4, u5, u6, u7⟩, z0, t0, t1, t2, t3⟩ := HMC.out X1 hb1
        have HX1 := hide hb1
        have HP2 := hide (fun (X : World) (hX : Below X1.heap.size X1 X) => (HP.out X (HX1.out.trans (hX.mono HX1.out.size))).mono (fun e w' he => show ∃ xa xn xc, e = .returned (.tuple #[.slice xa xn xc, .bool true]) ∧ (xn : Int) = q ∧ Below U.heap.size U w' from he))
        rw [HA.out] at z0
        clear hb1 q0 q1 q2 q3 y0 y4 y13 j0 j1 j2 HTH HU HP
        by_cases c3 : x3 < 0
        · have HN := hide (HNO.out (fun f => by have := HFK.out.1 f; omega))
          go_wp2
          go_ret
          exact yn_f HN.out (HK.out.1.trans ((HBU.out.trans (HX1.out.mono HBU.out.size)).mono HK.out.1.size))
        by_cases c4 : 4294967295 < x3
        · have HN := hide (HNO.out (fun f => by have := HFK.out.1 f; omega))
          go_wp2
          go_ret
          exact yn_f HN.out (HK.out.1.trans ((HBU.out.trans (HX1.out.mono HBU.out.size)).mono HK.out.1.size))
        go_wp2_with fail
        go_region_held3 (fun w' => w'.cell? ⟨w.heap.size, 0, none⟩ = some (.slice (some ⟨gm, om, none⟩) M.mn M.mc) ∧ w'.cell? ⟨wr.heap.size, 0, none⟩ = some (.int .i64 x0) ∧ w'.cell? ⟨wr.heap.size, 1, none⟩ = some (.int .i64 x1) ∧ w'.cell? ⟨gm, om + x0.toNat * 8, none⟩ = some (.string D.nm) ∧ w'.cell? ⟨gm, om + x0.toNat * 8 + 1, none⟩ = some (.slice D.ta D.tn D.tc) ∧ w'.cell? ⟨gm, om + x0.toNat * 8 + 2, none⟩ = some (.slice D.ba D.bn D.bc) ∧ w'.cell? ⟨gm, om + x0.toNat * 8 + 3, none⟩ = some (.slice D.da D.dn D.dc) ∧ w'.cell? ⟨gm, om + x0.toNat * 8 + 4, none⟩ = some (.int .i64 D.bss) ∧ w'.cell? ⟨gm, om + x0.toNat * 8 + 5, none⟩ = some (.slice D.ra D.rn D.rc) ∧ w'.cell? ⟨gm, om + x0.toNat * 8 + 6, none⟩ = some (.slice D.ia D.im D.ic) ∧ w'.cell? ⟨gm, om + x0.toNat * 8 + 7, none⟩ = some (.slice D.ea D.en D.ec)) (go_keep)
          (first
            | (go_at_call 133; first
                | with_reducible refine (HP2.out _ (Below.refl _ _)).mono ?_
                | with_reducible refine (HP2.out _ (Below.refl _ _).drew).mono ?_
               rintro e w1 ⟨xa, xn, xc, rfl, hxn, hb1⟩
               have HXN := hide hxn
               have HB1 := hide hb1
               obtain ⟨⟨s0, s1, s2, s3, s4, s5, s6, s7⟩, p0, r0, r1, r2, r3⟩ := HMC.out w1 hb1
               rw [HA.out] at p0
               clear hb1 hxn))
        clear u0 u1 u2 u3 u4 u5 u6 u7 s0 s1 s2 s3 s4 s5 s6 s7 z0 t0 t1 t2 t3 HP2
        have HE := hide (HBU.out.trans (HB1.out.mono HBU.out.size))
        by_cases c5 : x2 < 0
        · have HN := hide (HNO.out (fun f => by have := HFK.out.1 f; omega))
          go_wp2
          go_ret
          exact yn_f HN.out (HK.out.1.trans (HE.out.mono HK.out.1.size))
        by_cases c6 : (xn : Int) < x2
        · have HN := hide (HNO.out (fun f => by have h1 := HFK.out.1 f; have h2 := HXN.out; omega))
          go_wp2
          go_ret
          exact yn_f HN.out (HK.out.1.trans (HE.out.mono HK.out.1.size))
        have HY := hide (HST.out (HFK.out.2 (by have h2 := HXN.out; omega)))
        go_wp2
        go_roundw
        case rel => exact ⟨k + 1, by omega, by go_num, HY.out, HE.out⟩
        case measure => simp [intOf]; omega
      · rw [decide_eq_false c1] at HTH
        have HN := hide (HNO.out (fun f => c1 f.1.1))
        go_wp2_with (rw [← HU.out])
        refine HTH.out.mono ?_
        rintro e X1 ⟨rfl, hb1⟩
        go_wp2
        go_ret
        exact yn_f HN.out (HK.out.1.trans ((HBU.out.trans (hb1.mono HBU.out.size)).mono HK.out.1.size))
    · have HY := hide (frs_yes hl c0' hlt hF)
      clear hB hF
      go_wp2
      go_ret
      exact yn_t HY.out (HK.out.1.trans (HB.out.mono HK.out.1.size))
theorem cutW2 {S F : Value → World → Prop} {G : Prop} (main : (∀ v W, F v W → S v W) → G) (pf : ∀ v W, F v W → S v W) : G := main pf
structure Pc (w0 w : World) (cm cp : Array Value) (g n base : Nat) (zs : List Int) (W : World) : Prop where
  be : Below w0.heap.size w0 W
  km : Blk W w.heap.size cm 104
  kp : Blk W (w.heap.size + 1) cp 138
  o : OB W base (.slice (some ⟨g, 0, none⟩) n n) zs
  t : Turn (fun j => j = g) w W
section
variable {w0 w : World} {cm cp : Array Value} {g n base : Nat} {zs : List Int} {W W' : World}
theorem Pc.below (h : Pc w0 w cm cp g n base zs W) (hb : Below W.heap.size W W') : Pc w0 w cm cp g n base zs W' := ⟨h.be.trans (hb.mono h.be.size), h.km.below hb, h.kp.below hb, h.o.below hb, h.t.trans (turn_below hb)⟩
theorem Pc.drew (h : Pc w0 w cm cp g n base zs W) : Pc w0 w cm cp g n base zs W.drew := h.below (Below.refl _ _).drew
theorem Pc.set (h : Pc w0 w cm cp g n base zs W) {zs' : List Int} (hg : w0.heap.size ≤ g) (O : OB W' base (.slice (some ⟨g, 0, none⟩) n n) zs') (T : Only g W W') : Pc w0 w cm cp g n base zs' W' := by
  obtain ⟨c1, k1⟩ := ob_blk h.o
  exact ⟨only_below h.be T hg, only_blk T h.km (fun e => absurd (blk_kind (show Blk W g cm 104 from e ▸ h.km) k1) (by decide)), only_blk T h.kp (fun e => absurd (blk_kind (show Blk W g cp 138 from e ▸ h.kp) k1) (by decide)), O, h.t.trans (only_turn' T)⟩
end
theorem pour_zero (zs : List Int) (k : Nat) (ws : List Int) : pour zs k ws 0 = zs := rfl
set_option maxHeartbeats 8000000 in
theorem putCode_any (g F : Nat) (nm : ByteArray) (ta : Option Addr) (tn tc : Nat) (tz : List Int) (ba : Option Addr) (bn bc : Nat) (bl : List Bk) (da : Option Addr) (dn dc : Nat) (bss : Int) (ra : Option Addr) (rn rc : Nat) (ia : Option Addr) (im ic : Nat) (ea : Option Addr) (en ec : Nat) (P : PMod) (kt : Nat) (xa : Option Addr) (xb : List Int) (xc : Nat) (xd xz : Int) (fz : List Int) (base : Nat) (w w0 : World) (hT : IS w0 ta tn tc tz) (hB : BKS w0 ba bn bc bl) (hP1 : P.tz = tz) (hP2 : P.bl = bl.map (fun B => B.2.2.2)) (hx : IS w0 xa xb.length xc xb) (hb : Below w0.heap.size w0 w) (hg : w0.heap.size ≤ g) (ho : OB w base (.slice (some ⟨g, 0, none⟩) F F) fz) (hF : F ≤ 16384) (hbn4 : bn ≤ 4)
    (ht : kt + 4 * tn ≤ F) (hxb : xb.length = bn) (hbk : ∀ j, j < bn → 0 ≤ xb.getD j 0 ∧ xb.getD j 0 + 4 * ((bl.getD j zB).2.1 : Int) ≤ (F : Int)) :
    Calls Tryz.prog 86 #[.slice (some ⟨g, 0, none⟩) F F, .agg #[.string nm, .slice ta tn tc, .slice ba bn bc, .slice da dn dc, .int .i64 bss, .slice ra rn rc, .slice ia im ic, .slice ea en ec], .agg #[.int .i64 (kt : Int), .slice xa xb.length xc, .int .i64 xd, .int .i64 xz]] w fun e w' => e = .returned (.tuple #[]) ∧ OB w' base (.slice (some ⟨g, 0, none⟩) F F) (pourB fz P ⟨(kt : Int), xb, xd, xz⟩ P.bl.length) ∧ Turn (fun j => j = g) w w' := by
  have hbl : bl.length = bn := hB.1
  have htl : tz.length = tn := hT.1
  have HPL := hide (show P.bl.length = bn by rw [hP2, List.length_map]; exact hbl)
  have HP0 := hide (show pourB fz P ⟨(kt : Int), xb, xd, xz⟩ 0 = pour fz kt tz tn by show pour fz ((kt : Int)).toNat P.tz P.tz.length = _; rw [hP1, Int.toNat_natCast, htl])
  have HPS := hide (show ∀ j, j < bn → pourB fz P ⟨(kt : Int), xb, xd, xz⟩ (j + 1) = pour (pourB fz P ⟨(kt : Int), xb, xd, xz⟩ j) (xb.getD j 0).toNat (bl.getD j zB).2.2.2 (bl.getD j zB).2.1 from fun j hj => by
    have e : P.bl.getD j [] = (bl.getD j zB).2.2.2 := by rw [hP2, getD_map _ _ _ zB _ (by omega)]
    show pour _ (xb.getD j 0).toNat (P.bl.getD j []) (P.bl.getD j []).length = _
    rw [e, (hB.2.2.2.1 j hj).1])
  have HPW := hide (fun (cm cp : Array Value) (zs : List Int) (k : Nat) (a : Option Addr) (wn wc : Nat) (ws : List Int) (X : World) (hw : IS w0 a wn wc ws) (S : Pc w0 w cm cp g F base zs X) (hk : k + 4 * wn ≤ F) (hlt : k < F) => (putWords_any g F F k (F - k) (F - k) a wn wc ws zs base w0 X hw S.be hg S.o hF hk (by omega) (Nat.le_refl _) (by omega)).mono (fun e w' he => show e = .returned (.tuple #[]) ∧ Pc w0 w cm cp g F base (pour zs k ws wn) w' from ⟨he.1, S.set hg he.2.1 he.2.2⟩))
  have HPW0 := hide (fun (cm cp : Array Value) (zs : List Int) (k : Nat) (a : Option Addr) (wn wc : Nat) (ws : List Int) (X : World) (hw : IS w0 a wn wc ws) (S : Pc w0 w cm cp g F base zs X) (hk : k + 4 * wn ≤ F) (hlt : ¬ k < F) => (putWords_any g F F 0 0 0 a wn wc ws zs base w0 X hw S.be hg S.o hF (by omega) (by omega) (Nat.le_refl _) (by omega)).mono (fun e w' he => show e = .returned (.tuple #[]) ∧ Pc w0 w cm cp g F base (pour zs k ws wn) w' from ⟨he.1, by
    have e0 : wn = 0 := by omega
    have := S.set hg he.2.1 he.2.2
    rw [e0, pour_zero] at this ⊢
    exact this⟩))
  have HB := hide hB
  have HX := hide hx
  have HT := hide hT
  have HBK := hide hbk
  have S0 : Pc w0 w #[.string nm, .slice ta tn tc, .slice ba bn bc, .slice da dn dc, .int .i64 bss, .slice ra rn rc, .slice ia im ic, .slice ea en ec] #[.int .i64 (kt : Int), .slice xa xb.length xc, .int .i64 xd, .int .i64 xz] g F base fz ((w.alloc (.cells #[.string nm, .slice ta tn tc, .slice ba bn bc, .slice da dn dc, .int .i64 bss, .slice ra rn rc, .slice ia im ic, .slice ea en ec] 104)).alloc (.cells #[.int .i64 (kt : Int), .slice xa xb.length xc, .int .i64 xd, .int .i64 xz] 138)) := by
    have bb : Below w.heap.size w ((w.alloc (.cells #[.string nm, .slice ta tn tc, .slice ba bn bc, .slice da dn dc, .int .i64 bss, .slice ra rn rc, .slice ia im ic, .slice ea en ec] 104)).alloc (.cells #[.int .i64 (kt : Int), .slice xa xb.length xc, .int .i64 xd, .int .i64 xz] 138)) := ((Below.refl _ _).alloc (Nat.le_refl _) _).alloc (by simp) _
    exact ⟨hb.trans (bb.mono hb.size), (Blk.new _ _ _).alloc _, by have := Blk.new (w.alloc (.cells #[.string nm, .slice ta tn tc, .slice ba bn bc, .slice da dn dc, .int .i64 bss, .slice ra rn rc, .slice ia im ic, .slice ea en ec] 104)) #[.int .i64 (kt : Int), .slice xa xb.length xc, .int .i64 xd, .int .i64 xz] 138; simpa using this, ho.below bb, turn_below bb⟩
  have HS0 := hide S0
  have HXB := hide hxb
  have HBL := hide hbl
  clear S0 hB hx hT hbk ho hb hP1 hP2 htl hxb hbl
  go_enter Tryz.func86, Tryz.ntmps86
  go_wp2_with fail
  generalize ((w.alloc (.cells #[.string nm, .slice ta tn tc, .slice ba bn bc, .slice da dn dc, .int .i64 bss, .slice ra rn rc, .slice ia im ic, .slice ea en ec] 104)).alloc (.cells #[.int .i64 (kt : Int), .slice xa xb.length xc, .int .i64 xd, .int .i64 xz] 138)) = W0 at *
  generalize hcm : (#[.string nm, .slice ta tn tc, .slice ba bn bc, .slice da dn dc, .int .i64 bss, .slice ra rn rc, .slice ia im ic, .slice ea en ec] : Array Value) = cm at HS0
  generalize hcp : (#[.int .i64 (kt : Int), .slice xa xb.length xc, .int .i64 xd, .int .i64 xz] : Array Value) = cp at HS0
  have HCM := hide (And.intro hcm hcp)
  clear hcm hcp
  have HCL := hide (fun (zs : List Int) (X : World) (S : Pc w0 w cm cp g F base zs X) => show X.cell? ⟨w.heap.size, 1, none⟩ = some (.slice ta tn tc) ∧ X.cell? ⟨w.heap.size, 2, none⟩ = some (.slice ba bn bc) ∧ X.cell? ⟨w.heap.size + 1, 0, none⟩ = some (.int .i64 (kt : Int)) ∧ X.cell? ⟨w.heap.size + 1, 1, none⟩ = some (.slice xa xb.length xc) from by
    have h1 := S.km
    have h2 := S.kp
    rw [← HCM.out.1] at h1
    rw [← HCM.out.2] at h2
    exact ⟨h1.cell 1, h1.cell 2, h2.cell 0, h2.cell 1⟩)
  obtain ⟨x1, x2, y0, y1⟩ := HCL.out _ _ HS0.out
  have k0' : (0 : Int) ≤ (kt : Int) := by omega
  have k1' : (kt : Int) ≤ (F : Int) := by omega
  apply cutW2 (F := fun v W => Pc w0 w cm cp g F base (pourB fz P ⟨(kt : Int), xb, xd, xz⟩ 0) W)
  · intro REST0
    have REST := hide REST0
    clear REST0
    rw [HP0.out] at REST
    by_cases hkF : kt < F
    · have hkF' : (kt : Int) < (F : Int) := by omega
      have hkn : ¬ (F = kt) := by omega
      go_region_held3 (fun w' => w'.cell? ⟨w.heap.size, 1, none⟩ = some (.slice ta tn tc) ∧ w'.cell? ⟨w.heap.size + 1, 0, none⟩ = some (.int .i64 (kt : Int))) (go_keep)
        (first
          | (go_at_call 178; first
              | with_reducible refine (HPW.out cm cp fz kt ta tn tc tz _ HT.out HS0.out ht hkF).mono ?_
              | with_reducible refine (HPW.out cm cp fz kt ta tn tc tz _ HT.out HS0.out.drew ht hkF).mono ?_
             rintro e w2 ⟨rfl, hS2⟩
             have HS2 := hide hS2
             clear hS2
             obtain ⟨z1, z2, z3, z4⟩ := HCL.out _ _ HS2.out))
      generalize Value.slice (some ⟨g, kt, none⟩) (F - kt) (F - kt) = v11
      exact REST.out v11 w2 HS2.out
    · obtain rfl : F = kt := by omega
      go_region_held3 (fun w' => w'.cell? ⟨w.heap.size, 1, none⟩ = some (.slice ta tn tc) ∧ w'.cell? ⟨w.heap.size + 1, 0, none⟩ = some (.int .i64 (F : Int))) (go_keep)
        (first
          | (go_at_call 178; first
              | with_reducible refine (HPW0.out cm cp fz F ta tn tc tz _ HT.out HS0.out ht hkF).mono ?_
              | with_reducible refine (HPW0.out cm cp fz F ta tn tc tz _ HT.out HS0.out.drew ht hkF).mono ?_
             rintro e w2 ⟨rfl, hS2⟩
             have HS2 := hide hS2
             clear hS2
             obtain ⟨z1, z2, z3, z4⟩ := HCL.out _ _ HS2.out))
      exact REST.out _ w2 HS2.out
  · rintro v11 W2 hS2
    show Exit.then _ _ _ _ _
    obtain ⟨z1, z2, z3, z4⟩ := HCL.out _ _ hS2
    have HS2 := hide hS2
    clear hS2 x1 x2 y0 y1 HS0 k0' k1'
    go_wp2
    clear z1 z2 z3 z4
    go_loopw [18] (fun i wr => ∃ j : Nat, j ≤ bn ∧ i = .int .i64 j ∧ Pc w0 w cm cp g F base (pourB fz P ⟨(kt : Int), xb, xd, xz⟩ j) wr) (fun i _ => bn - (intOf i).toNat)
    case atStart => exact ⟨0, Nat.zero_le _, rfl, HS2.out⟩
    case round =>
      clear HS2
      obtain ⟨j, hj, rfl, hJ⟩ := hrel
      generalize wr = wj at *
      have HJ := hide hJ
      obtain ⟨z1, z2, z3, z4⟩ := HCL.out _ _ hJ
      by_cases hjb : j < bn
      · have hjb' : (j : Int) < (bn : Int) := by omega
        have hjx' : (j : Int) < (xb.length : Int) := by have := HXB.out; omega
        obtain ⟨bb, bo, rfl, hbc⟩ := HB.out.2.2.1 (show bn ≠ 0 by omega)
        obtain ⟨qb, qo, rfl, hqc⟩ := HX.out.2.2.2.1 (show xb.length ≠ 0 by have := HXB.out; omega)
        have s1 := cell_below hJ.be (hqc j (by have := HXB.out; omega))
        have s2 := cell_below hJ.be (hbc j hjb)
        obtain ⟨kb, hkb⟩ : ∃ kb : Nat, xb.getD j 0 = (kb : Int) := ⟨(xb.getD j 0).toNat, by have := (HBK.out j hjb).1; omega⟩
        have HK2 := hide (show kb + 4 * (bl.getD j zB).2.1 ≤ F by have := (HBK.out j hjb).2; rw [hkb] at this; omega)
        have HIB := hide (HB.out.2.2.2.1 j hjb)
        have HPJ := HPS.out j hjb
        rw [hkb, Int.toNat_natCast] at HPJ
        rw [hkb] at s1
        have HPJ := hide HPJ
        have hk2 := HK2.out
        generalize hPJ : pourB fz P ⟨(kt : Int), xb, xd, xz⟩ (j + 1) = ZJ at HPJ
        have HZJ := hide hPJ
        clear hJ hbc hqc hkb hPJ
        generalize (bl.getD j zB).2.2.2 = kw at *
        generalize (bl.getD j zB).1 = k1 at *
        generalize (bl.getD j zB).2.1 = k2 at *
        generalize (bl.getD j zB).2.2.1 = k3 at *
        have b0' : (0 : Int) ≤ (kb : Int) := by omega
        have b1' : (kb : Int) ≤ (F : Int) := by omega
        by_cases hkF : kb < F
        · have hkF' : (kb : Int) < (F : Int) := by omega
          have hkn : ¬ (F = kb) := by omega
          have HC := hide (HPW.out cm cp _ kb k1 k2 k3 kw wj HIB.out HJ.out HK2.out hkF)
          go_wp2_with fail
          refine HC.out.mono ?_
          rintro e w3 ⟨rfl, hS3⟩
          have HS3 := hide (show Pc w0 w cm cp g F base ZJ w3 by rw [HPJ.out]; exact hS3)
          clear hS3 s1 s2 z1 z2 z3 z4
          go_wp2
          go_roundw
          case rel => exact ⟨j + 1, by omega, by go_num, by rw [HZJ.out]; exact HS3.out⟩
          case measure => simp [intOf]; omega
        · have hkF' : ¬ (kb : Int) < (F : Int) := by omega
          have HC := hide (HPW0.out cm cp _ kb k1 k2 k3 kw wj HIB.out HJ.out HK2.out hkF)
          obtain rfl : F = kb := by omega
          go_wp2_with fail
          refine HC.out.mono ?_
          rintro e w3 ⟨rfl, hS3⟩
          have HS3 := hide (show Pc w0 w cm cp g F base ZJ w3 by rw [HPJ.out]; exact hS3)
          clear hS3 s1 s2 z1 z2 z3 z4
          go_wp2
          go_roundw
          case rel => exact ⟨j + 1, by omega, by go_num, by rw [HZJ.out]; exact HS3.out⟩
          case measure => simp [intOf]; omega
      · have e : Hid (j = bn) := by show j = bn; omega
        clear hJ
        go_wp2
        go_end0
        exact ⟨rfl, by rw [HPL.out, ← e.out]; exact HJ.out.o, HJ.out.t⟩
theorem rs_news {w : World} {b off n cap : Nat} {rs : List Rg} (h : RS w (some ⟨b, off, none⟩) n cap rs) : ∀ j u, (flat rs)[j]? = some u → w.cell? ((⟨b, off, none⟩ : Addr).add j) = some u := by
  intro j u hj
  have hl := h.1
  have hj2 : j < (flat rs).length := by
    rcases Nat.lt_or_ge j (flat rs).length with h' | h'
    · exact h'
    · rw [List.getElem?_eq_none h'] at hj; cases hj
  rw [flat6_len] at hj2
  have hq : j / 6 < rs.length := by omega
  have hr : j % 6 < 6 := Nat.mod_lt _ (by omega)
  have e := flat6_get rs (j / 6) (j % 6) hq hr
  rw [show j / 6 * 6 + j % 6 = j by omega, hj] at e
  obtain ⟨h1, h2, h3, h4, h5, h6⟩ := h.at (j / 6) (by omega)
  rw [addr_add, show off + j = off + j / 6 * 6 + j % 6 by omega]
  rw [e]
  generalize rs.getD (j / 6) z6 = G at *
  generalize j / 6 = q at *
  have c : j % 6 = 0 ∨ j % 6 = 1 ∨ j % 6 = 2 ∨ j % 6 = 3 ∨ j % 6 = 4 ∨ j % 6 = 5 := by omega
  rcases c with c | c | c | c | c | c <;> rw [c]
  · exact h1
  · exact h2
  · exact h3
  · exact h4
  · exact h5
  · exact h6
theorem flat6_one (rs : List Rg) : ∀ u ∈ flat rs, u.oneCell' = true := by
  intro u hu
  simp only [flat, List.mem_flatMap] at hu
  obtain ⟨g, _, hg⟩ := hu
  exact one6 g u hg
theorem flat_app (xs ys : List Rg) : flat (xs ++ ys) = flat xs ++ flat ys := by simp [flat]
abbrev Spn := Int × Int × Bool × Bool × Bool
def spR (p : Spn) : List Rg := rts p.2.2.1 p.2.2.2.1 p.2.2.2.2 (cvL p.1 p.2.1)
def zSp : Spn := (0, 0, false, false, false)
def At5 (w : World) (b o : Nat) (p : Spn) : Prop :=
  w.cell? ⟨b, o, none⟩ = some (.int .i64 p.1) ∧ w.cell? ⟨b, o + 1, none⟩ = some (.int .i64 p.2.1) ∧ w.cell? ⟨b, o + 2, none⟩ = some (.bool p.2.2.1) ∧
  w.cell? ⟨b, o + 3, none⟩ = some (.bool p.2.2.2.1) ∧ w.cell? ⟨b, o + 4, none⟩ = some (.bool p.2.2.2.2)
theorem At5.below {w w' : World} {b o : Nat} {p : Spn} (h : At5 w b o p) (hb : Below w.heap.size w w') : At5 w' b o p := by
  obtain ⟨h1, h2, h3, h4, h5⟩ := h
  have hl : b < w.heap.size := World.block_lt_of_cell? w _ h1
  unfold At5
  rw [hb.cell (p := ⟨b, o, none⟩) hl, hb.cell (p := ⟨b, o + 1, none⟩) hl, hb.cell (p := ⟨b, o + 2, none⟩) hl, hb.cell (p := ⟨b, o + 3, none⟩) hl, hb.cell (p := ⟨b, o + 4, none⟩) hl]
  exact ⟨h1, h2, h3, h4, h5⟩
theorem spR_len (p : Spn) : (spR p).length ≤ 8192 := by unfold spR; rw [rts_len]; exact cvL_len _ _
theorem sps_len (ss : List Spn) : (ss.flatMap spR).length ≤ 8192 * ss.length := by
  induction ss with
  | nil => simp
  | cons p ss ih => have := spR_len p; simp only [List.flatMap_cons, List.length_append, List.length_cons]; omega
theorem sps_step (ss : List Spn) (k : Nat) (h : k < ss.length) : (ss.take (k + 1)).flatMap spR = (ss.take k).flatMap spR ++ spR (ss.getD k zSp) := by
  rw [List.take_add_one, List.flatMap_append]
  congr 1
  simp [List.getD_eq_getElem?_getD, h]
set_option maxHeartbeats 2000000 in
theorem joined_any (b off n cap : Nat) (ss : List Spn) (w : World) (hn : ss.length = n) (hn4 : n ≤ 4) (hw : ∀ i, i < n → wfi (ss.getD i zSp).1 ∧ wfi (ss.getD i zSp).2.1) (h : ∀ i, i < n → At5 w b (off + i * 5) (ss.getD i zSp)) :
    Calls Tryz.prog 184 #[.slice (some ⟨b, off, none⟩) n cap] w fun e w' => ∃ A m cap', e = .returned (.slice A m cap') ∧ m = (ss.flatMap spR).length ∧ ORg w' w.heap.size (.slice A m cap') (ss.flatMap spR) ∧ Below w.heap.size w w' := by
  obtain ⟨i0, hi, hz0, hz1, hz2⟩ := info_parts infoR
  have HA := hide h
  have HW := hide hw
  have HN := hide hn
  clear h hw hn
  go_enter Tryz.func184, Tryz.ntmps184
  go_wp2_with fail
  go_loopw [3, 8] (fun o i wr => ∃ (A : Option Addr) (m cap' k : Nat), k ≤ n ∧ o = .slice A m cap' ∧ i = .int .i64 k ∧ ORg wr w.heap.size (.slice A m cap') ((ss.take k).flatMap spR) ∧ Below w.heap.size w wr) (fun _ i _ => n - (intOf i).toNat)
  case atStart => exact ⟨none, 0, 0, 0, Nat.zero_le _, rfl, rfl, org_nil _ _, Below.refl _ _⟩
  case round =>
    obtain ⟨A, m, cap', k, hk, rfl, rfl, hO, hB⟩ := hrel
    by_cases hlt : k < n
    · have hlt' : (k : Int) < (n : Int) := by omega
      obtain ⟨p0, p1, p2, p3, p4⟩ := (HA.out k hlt).below hB
      have HT := hide (sps_step ss k (by rw [HN.out]; exact hlt))
      have hww := HW.out k hlt
      generalize ss.getD k zSp = G at *
      obtain ⟨f, s, r, x, y⟩ := G
      obtain ⟨V, hV⟩ : ∃ V, V = wr.alloc (.cells #[.int .i64 f, .int .i64 s, .bool r, .bool x, .bool y] 232) := ⟨_, rfl⟩
      have KV : Blk V wr.heap.size #[.int .i64 f, .int .i64 s, .bool r, .bool x, .bool y] 232 := by rw [hV]; exact Blk.new _ _ _
      have BV : Below wr.heap.size wr V := by rw [hV]; exact (Below.refl _ _).alloc (Nat.le_refl _) _
      have e0 : V.cell? ⟨wr.heap.size, 0, none⟩ = some (.int .i64 f) := KV.cell 0
      have e1 : V.cell? ⟨wr.heap.size, 1, none⟩ = some (.int .i64 s) := KV.cell 1
      have e2 : V.cell? ⟨wr.heap.size, 2, none⟩ = some (.bool r) := KV.cell 2
      have e3 : V.cell? ⟨wr.heap.size, 3, none⟩ = some (.bool x) := KV.cell 3
      have e4 : V.cell? ⟨wr.heap.size, 4, none⟩ = some (.bool y) := KV.cell 4
      have HR := hide (regions_any f s r x y V hww.1 hww.2)
      have HO := hide (turn_or' (turn_below BV) hO (fun _ _ h => h))
      have HML := hide (or_rs hO).1
      have HMX := hide (show m ≤ 32768 by have h1 := sps_len (ss.take k); rw [(or_rs hO).1, List.length_take, HN.out] at h1; omega)
      have HLE := hide (or_lt hO)
      have HBV := hide (hB.trans (BV.mono hB.size))
      have HSV := hide (show w.heap.size ≤ V.heap.size from Nat.le_trans hB.size BV.size)
      have HV := hide hV
      have HGE := hide (fun j hj => or_rowle hO j hj)
      clear hV KV BV hO hB hww
      go_wp2_with (rw [← HV.out])
      refine HR.out.mono ?_
      rintro e w3 ⟨X, q, qc, rfl, hX, hnil, hB3⟩
      have HL3 := hide (show q ≤ 8192 by have h1 := spR_len (f, s, r, x, y); have h2 := hX.1; unfold spR at h1; simp only at h1; omega)
      have HO3 := hide (turn_or' (turn_below hB3) HO.out (fun _ _ h => h))
      have HB4 := hide (HBV.out.trans (hB3.mono HSV.out))
      have HSZ := hide (show w.heap.size ≤ w3.heap.size from Nat.le_trans HSV.out hB3.size)
      have HX := hide hX
      have HNIL := hide hnil
      clear hX hnil hB3
      have HOW := hide (show w3.ownsRow w.heap.size 158 6 (.slice A m cap') m (flat ((ss.take k).flatMap spR)) from by have := HO3.out.1; rwa [HML.out] at this)
      have HSP := hide (show spR (f, s, r, x, y) = rts r x y (cvL f s) from rfl)
      have HWF := hide HX.out.2.2.1
      obtain ⟨M, hM⟩ : ∃ M, M = rts r x y (cvL f s) := ⟨_, rfl⟩
      rw [← hM] at HX HSP HWF
      have HLEN := hide (show (flat M).length = q * 6 by rw [flat6_len, HX.out.1])
      have HONE := hide (flat6_one M)
      clear hM
      match X with
      | none =>
        obtain ⟨rfl, rfl⟩ := HNIL.out rfl
        go_wp2_with (at_builtin; refine wpList_append_own_none rfl _ _ 68 rfl w.heap.size 158 i0 6 Tryz.underlying68 hi (.slice A m cap') m (flat ((ss.take k).flatMap spR)) rfl HOW.out rfl ?_)
        refine ⟨⟨A, m, cap', k + 1, by omega, rfl, by go_num, ?_, HB4.out⟩, by simp [intOf]; omega⟩
        rw [HT.out, HSP.out, List.eq_nil_of_length_eq_zero HX.out.1, List.append_nil]
        exact HO3.out
      | some ad =>
        have HNEWS := hide (show ∀ j u, (flat M)[j]? = some u → w3.cell? (ad.add j) = some u from by
          by_cases hq : q = 0
          · have e : M = [] := List.eq_nil_of_length_eq_zero (by rw [HX.out.1]; exact hq)
            rw [e]; intro j u hj; simp [flat] at hj
          · obtain ⟨b', off', he⟩ := HX.out.some hq
            injection he with he
            subst he
            exact rs_news HX.out)
        go_wp2_with (at_builtin; refine wpList_append_own _ rfl _ _ 68 rfl w.heap.size 158 i0 (.agg #[.int .i64 0, .int .i64 0, .int .i64 0, .bool false, .bool false, .bool false]) 6 32 Tryz.underlying68 hi hz0 hz1 hz2 rfl (by decide) (.slice A m cap') m (flat ((ss.take k).flatMap spR)) rfl HOW.out ad q qc (flat M) rfl HLEN.out HNEWS.out HONE.out (by have := HMX.out; have := HL3.out; unfold maxLen; omega) (by have := HMX.out; have := HL3.out; omega) HSZ.out ?_; intro v' w4 hown4 hgr4 _; have HP := hide (And.intro hown4 hgr4); clear hown4 hgr4; obtain ⟨A2, cap2, he⟩ := or_shape HP.out.1; subst he)
        refine ⟨⟨A2, m + q, cap2, k + 1, by omega, rfl, by go_num, ?_, below_turn HB4.out (grown_turn HP.out.2) (fun j hj => HGE.out j hj) HSZ.out⟩, by simp [intOf]; omega⟩
        rw [HT.out, HSP.out]
        refine ⟨?_, fun y hy => ?_⟩
        · rw [List.length_append, HML.out, HX.out.1, flat_app]
          exact HP.out.1
        · rcases List.mem_append.1 hy with hy | hy
          · exact HO3.out.2 y hy
          · exact HWF.out y hy
    · have HE := hide (show k = n by omega)
      have HF := hide (And.intro hO hB)
      clear hO hB
      go_wp2
      go_ret
      have h1 := HF.out.1
      rw [List.take_of_length_le (by rw [HN.out, HE.out]; exact Nat.le_refl _)] at h1
      exact ⟨A, m, cap', rfl, (or_rs h1).1.symm, h1, HF.out.2⟩
end Go.Proofs.YtngdgogjlpjjpaeGreat
