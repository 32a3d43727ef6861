import Derived.Test.YtngdgogjlpjjpadGreatK30
namespace Go.Proofs.YtngdgogjlpjjpadGreat
open Go.RowKit
set_option linter.unusedVariables false
set_option linter.unusedSimpArgs false
set_option maxRecDepth 100000

/-- WHAT Step DOES. -/
def stepF (pc : Int) (n : Nat) (zs : List Int) (n1 n2 n3 : Nat) (x1 x2 x3 : List Int) (rs : List Rg) (rn : Nat) : Res :=
  if (cok pc n zs && mok n1 n2 n3) = true then stp pc zs n1 n2 n3 x1 x2 x3 rs rn else ⟨5, 2, pc, zs, x1, x2, x3⟩
theorem cok_parts {pc : Int} {n : Nat} {zs : List Int} (h : cok pc n zs = true) : 0 ≤ pc ∧ pc ≤ 4294967295 ∧ n = 8 ∧ ∀ z ∈ zs, 0 ≤ z ∧ z ≤ 4294967295 := by
  unfold cok at h
  simp only [Bool.and_eq_true, decide_eq_true_eq, List.all_eq_true] at h
  exact ⟨h.1.1, h.1.2.1, h.1.2.2, h.2⟩
set_option maxHeartbeats 2000000 in
theorem iStep_good (pc : Int) (cb co n cc : Nat) (zs : List Int) (b1 o1 b2 o2 b3 o3 n1 c1 n2 c2 n3 c3 : Nat) (x1 x2 x3 : List Int) (ra : Option Addr) (rn rc : Nat) (rs : List Rg) (w : World)
    (hc : IS w (some ⟨cb, co, none⟩) n cc zs) (h1 : BS w (some ⟨b1, o1, none⟩) n1 c1 x1) (h2 : BS w (some ⟨b2, o2, none⟩) n2 c2 x2) (h3 : BS w (some ⟨b3, o3, none⟩) n3 c3 x3) (hrs : RS w ra rn rc rs) (hlow : ∀ b off, ra = some ⟨b, off, none⟩ → b < w.heap.size) (hn : n1 + n2 + n3 ≤ 1048576) (hgood : (cok pc n zs && mok n1 n2 n3) = true) :
    Calls Tryz.prog 24 #[.agg #[.int .i64 pc, .slice (some ⟨cb, co, none⟩) n cc], .agg #[.slice (some ⟨b1, o1, none⟩) n1 c1, .slice (some ⟨b2, o2, none⟩) n2 c2, .slice (some ⟨b3, o3, none⟩) n3 c3], .slice ra rn rc] w (StPost w (stp pc zs n1 n2 n3 x1 x2 x3 rs rn)) := by
  obtain ⟨W, hW⟩ : ∃ W, W = (((w.alloc (.cells #[.int .i64 pc, .slice (some ⟨cb, co, none⟩) n cc] 58)).alloc (.cells #[.slice (some ⟨b1, o1, none⟩) n1 c1, .slice (some ⟨b2, o2, none⟩) n2 c2, .slice (some ⟨b3, o3, none⟩) n3 c3] 38)).alloc (.cells #[.int .i64 0, .slice none 0 0] 58)).alloc (.cells #[.slice none 0 0, .slice none 0 0, .slice none 0 0] 38) := ⟨_, rfl⟩
  have hB0 : Below w.heap.size w W := by rw [hW]; exact ((((Below.refl _ _).alloc (Nat.le_refl _) _).alloc (by simp) _).alloc (by simp; omega) _).alloc (by simp; omega) _
  have k0 : Blk W w.heap.size #[.int .i64 pc, .slice (some ⟨cb, co, none⟩) n cc] 58 := by rw [hW]; exact (((Blk.new w _ _).alloc _).alloc _).alloc _
  have k1 : Blk W (w.heap.size + 1) #[.slice (some ⟨b1, o1, none⟩) n1 c1, .slice (some ⟨b2, o2, none⟩) n2 c2, .slice (some ⟨b3, o3, none⟩) n3 c3] 38 := by
    rw [hW]
    have := ((Blk.new (w.alloc (.cells #[.int .i64 pc, .slice (some ⟨cb, co, none⟩) n cc] 58)) #[.slice (some ⟨b1, o1, none⟩) n1 c1, .slice (some ⟨b2, o2, none⟩) n2 c2, .slice (some ⟨b3, o3, none⟩) n3 c3] 38).alloc (.cells #[.int .i64 0, .slice none 0 0] 58)).alloc (.cells #[.slice none 0 0, .slice none 0 0, .slice none 0 0] 38)
    simpa only [World.size_alloc] using this
  have k2 : Blk W (w.heap.size + 1 + 1) #[.int .i64 0, .slice none 0 0] 58 := by
    rw [hW]
    have := (Blk.new ((w.alloc (.cells #[.int .i64 pc, .slice (some ⟨cb, co, none⟩) n cc] 58)).alloc (.cells #[.slice (some ⟨b1, o1, none⟩) n1 c1, .slice (some ⟨b2, o2, none⟩) n2 c2, .slice (some ⟨b3, o3, none⟩) n3 c3] 38)) #[.int .i64 0, .slice none 0 0] 58).alloc (.cells #[.slice none 0 0, .slice none 0 0, .slice none 0 0] 38)
    simpa only [World.size_alloc] using this
  have k3 : Blk W (w.heap.size + 1 + 1 + 1) #[.slice none 0 0, .slice none 0 0, .slice none 0 0] 38 := by
    rw [hW]
    have := Blk.new (((w.alloc (.cells #[.int .i64 pc, .slice (some ⟨cb, co, none⟩) n cc] 58)).alloc (.cells #[.slice (some ⟨b1, o1, none⟩) n1 c1, .slice (some ⟨b2, o2, none⟩) n2 c2, .slice (some ⟨b3, o3, none⟩) n3 c3] 38)).alloc (.cells #[.int .i64 0, .slice none 0 0] 58)) #[.slice none 0 0, .slice none 0 0, .slice none 0 0] 38
    simpa only [World.size_alloc] using this
  have HC := hide (fun w h => coreOk_any pc (some ⟨cb, co, none⟩) n cc zs w h)
  have HM := hide (fun w => iMemOk_any (some ⟨b1, o1, none⟩) (some ⟨b2, o2, none⟩) (some ⟨b3, o3, none⟩) n1 c1 n2 c2 n3 c3 w)
  have HCM := hide (fun w h1 h2 h3 => copyMem_any b1 o1 b2 o2 b3 o3 n1 c1 n2 c2 n3 c3 x1 x2 x3 w h1 h2 h3 hn)
  have hc0 := hc.below hB0
  have h10 := h1.below hB0
  have h20 := h2.below hB0
  have h30 := h3.below hB0
  have hok : cok pc n zs = true ∧ mok n1 n2 n3 = true := by simpa using hgood
  obtain ⟨p0, p1, rfl, hzr⟩ := cok_parts hok.1
  rw [hok.1] at HC
  rw [hok.2] at HM
  have HNP := hide (fun (w : World) (e1 e2 e3 : Option Addr) (d1 d2 d3 : Nat) h => newP_any pc cb co cc zs e1 e2 e3 n1 d1 n2 d2 n3 d3 ra rn rc w h p0 p1 hzr)
  have HST := hide (fun (g : Nat) (W : World) (e1 e2 e3 : Option Addr) (d1 d2 d3 : Nat) h => pstep_any g w.heap.size pc zs e1 e2 e3 n1 d1 n2 d2 n3 d3 x1 x2 x3 ra rn rc rs W h)
  generalize stp pc zs n1 n2 n3 x1 x2 x3 rs rn = r at *
  obtain ⟨did, num, pc', rg', y1, y2, y3⟩ := r
  have hrs0 := hrs.below hB0
  clear hok hgood
  have ne0 : w.heap.size ≠ w.heap.size + 1 := by omega
  have ne1 : w.heap.size ≠ w.heap.size + 1 + 1 := by omega
  have ne2 : w.heap.size ≠ w.heap.size + 1 + 1 + 1 := by omega
  have ne3 : w.heap.size + 1 ≠ w.heap.size := by omega
  have ne4 : w.heap.size + 1 ≠ w.heap.size + 1 + 1 := by omega
  have ne5 : w.heap.size + 1 ≠ w.heap.size + 1 + 1 + 1 := by omega
  have ne6 : w.heap.size + 1 + 1 ≠ w.heap.size := by omega
  have ne7 : w.heap.size + 1 + 1 ≠ w.heap.size + 1 := by omega
  have ne8 : w.heap.size + 1 + 1 ≠ w.heap.size + 1 + 1 + 1 := by omega
  have ne9 : w.heap.size + 1 + 1 + 1 ≠ w.heap.size := by omega
  have ne10 : w.heap.size + 1 + 1 + 1 ≠ w.heap.size + 1 := by omega
  have ne11 : w.heap.size + 1 + 1 + 1 ≠ w.heap.size + 1 + 1 := by omega
  go_enter Tryz.func24, Tryz.ntmps24
  go_wp2_with fail
  rw [← hW]
  clear hW
  refine (HC.out _ hc0).mono ?_
  rintro e w1 ⟨rfl, hb1⟩
  obtain ⟨s1, s2, s3, s4⟩ := (k1.below hb1).three
  go_wp2_with fail
  refine (HM.out _).mono ?_
  rintro e w2 ⟨rfl, hb2⟩
  have hb12 := hb1.trans (hb2.mono hb1.size)
  have q0 := k0.below hb12
  have q1 := k1.below hb12
  have q2 := k2.below hb12
  have q3 := k3.below hb12
  have hB := hB0.trans (hb12.mono hB0.size)
  have cV := hc0.below hb12
  have m1V := h10.below hb12
  have m2V := h20.below hb12
  have m3V := h30.below hb12
  have rV := hrs0.below hb12
  clear hb1 hb2 hb12 k0 k1 k2 k3 hc h1 h2 h3 hc0 h10 h20 h30 hB0 hrs hrs0 s1 s2 s3 s4
  obtain ⟨t1, t2, t3⟩ := q0.two'
  obtain ⟨s1, s2, s3, s4⟩ := q1.three
  go_wp2_with fail
  go_region_held3 (fun w' => w'.cell? ⟨w.heap.size, 0, none⟩ = some (.int .i64 pc) ∧ w'.cell? ⟨w.heap.size, 1, none⟩ = some (.slice (some ⟨cb, co, none⟩) 8 cc) ∧ w'.cell? ⟨w.heap.size + 1, 0, none⟩ = some (.slice (some ⟨b1, o1, none⟩) n1 c1) ∧ w'.cell? ⟨w.heap.size + 1, 1, none⟩ = some (.slice (some ⟨b2, o2, none⟩) n2 c2) ∧ w'.cell? ⟨w.heap.size + 1, 2, none⟩ = some (.slice (some ⟨b3, o3, none⟩) n3 c3)) (go_keep)
    (first
      | (go_at_call 96; refine (HCM.out _ (by exact m1V) (by exact m2V) (by exact m3V)).mono ?_; rintro e u1 ⟨e1, d1, e2, d2, e3, d3, rfl, mM, hbx⟩; replace hbx := undrew hbx; obtain ⟨t1, t2, t3⟩ := (q0.below hbx).two'; obtain ⟨s1, s2, s3, s4⟩ := (q1.below hbx).three)
      | (go_at_call 97; refine (HNP.out _ _ _ _ _ _ _ (cV.below hbx)).mono ?_; rintro e u2 ⟨g, hg, rfl, pr, hby⟩; obtain ⟨t1, t2, t3⟩ := ((q0.below hbx).below hby).two'; obtain ⟨s1, s2, s3, s4⟩ := ((q1.below hbx).below hby).three))
  all_goals
    have bF := hbx.trans (hby.mono hbx.size)
    have hw2 := hB.size
    have hu1 := hbx.size
    have H3 : Pm u2 g w.heap.size pc zs e1 e2 e3 n1 d1 n2 d2 n3 d3 x1 x2 x3 ra rn rc rs := by
      refine ⟨pr, own3_mono (own3_below mM hby) (by simpa using hw2), ?_, by omega, (rV.below bF), hlow⟩
      intro v hv hk
      have := hv.elim (fun e => (mM.1.lt g (e ▸ hk)).2) (fun e => e.elim (fun e => (mM.2.1.lt g (e ▸ hk)).2) (fun e => (mM.2.2.1.lt g (e ▸ hk)).2))
      omega
    have q2' := q2.below bF
    have q3' := q3.below bF
    have hB3 := hB.trans (bF.mono hB.size)
    have hg2 : w.heap.size + 1 + 1 ≠ g := by have := q2.lt; omega
    have hg3 : w.heap.size + 1 + 1 + 1 ≠ g := by have := q3.lt; omega
    clear hbx hby mM pr bF q0 q1 q2 q3 cV m1V m2V m3V rV t1 t2 t3 s1 s2 s3 s4
    go_wp2_with fail
    refine (HST.out _ _ _ _ _ _ _ _ H3).mono ?_
    rintro e w4 ⟨b3', m3, d3', rfl, H4, T4, K4⟩
    dsimp only at H4
    have kx := Blk.new w4 #[.int .i64 did, .int .i64 num] 141
    have hA := (Below.refl w4.heap.size w4).alloc (Nat.le_refl _) (.cells #[.int .i64 did, .int .i64 num] 141)
    have H5 := H4.below hA
    have r30 := K4 _ _ _ q3' hg3 (by decide)
    have w4s := r30.lt
    have r2 := (K4 _ _ _ q2' hg2 (by decide)).below hA
    have r3 := (K4 _ _ _ q3' hg3 (by decide)).below hA
    have hB5 : Below w.heap.size w (w4.alloc (.cells #[.int .i64 did, .int .i64 num] 141)) := (below_turn hB3 T4 (fun k e => e) hB3.size).alloc (Nat.le_trans hB3.size T4.size) _
    have HCO := hide (fun W h => pcore_any g pc' rg' (.slice e1 n1 d1) (.slice e2 n2 d2) (.slice b3' m3 d3') (.slice ra rn rc) W h)
    have hgl := H4.pr.blk.lt
    clear H3 H4 T4 K4 q2' q3' hB3 hA
    have nf0 : g ≠ w.heap.size + 1 + 1 := by omega
    have nf1 : g ≠ w.heap.size + 1 + 1 + 1 := by omega
    have nf2 : w4.heap.size ≠ w.heap.size + 1 + 1 := by omega
    have nf3 : w4.heap.size ≠ w.heap.size + 1 + 1 + 1 := by omega
    have nf4 : w.heap.size + 1 + 1 ≠ w4.heap.size := by omega
    have nf5 : w.heap.size + 1 + 1 + 1 ≠ w4.heap.size := by omega
    obtain ⟨j1, j2, j3, j4⟩ := H5.pr.mem
    obtain ⟨x4, x5, x6⟩ := kx.two'
    go_wp2_with fail
    go_region_held3 (fun w' => w'.cell? ⟨g, 9, none⟩ = some (.slice e1 n1 d1) ∧ w'.cell? ⟨g, 10, none⟩ = some (.slice e2 n2 d2) ∧ w'.cell? ⟨g, 11, none⟩ = some (.slice b3' m3 d3') ∧ w'.cell? ⟨w4.heap.size, 0, none⟩ = some (.int .i64 did) ∧ w'.cell? ⟨w4.heap.size, 1, none⟩ = some (.int .i64 num)) (go_keep)
      (first
        | (go_at_call 99; refine (HCO.out _ (by exact ⟨H5.pr.blk, H5.pr.len, H5.pr.pcw, H5.pr.rgw⟩)).mono ?_; rintro e u5 ⟨ca, cp, rfl, oC, hbz⟩; replace hbz := undrew hbz; have H6 := H5.below hbz; obtain ⟨j1, j2, j3, j4⟩ := H6.pr.mem; obtain ⟨x4, x5, x6⟩ := (kx.below hbz).two'; obtain ⟨z1, z2, z3⟩ := (r2.below hbz).two'; obtain ⟨z4, z5, z6, z7⟩ := (r3.below hbz).three))
    all_goals
      have oF : OI u5 w.heap.size (.slice ca 8 cp) rg' := OI.mono oC (by simp only [heap_drew, World.size_alloc]; omega)
      obtain ⟨fA, ya0, ya1, ya2, ya3, ya4⟩ := st_fin (pc := pc') oF H6.own (r2.below hbz) (r3.below hbz) (hB5.trans (hbz.mono hB5.size)) (Nat.le_refl _) (by omega) (Or.inl rfl)
      obtain ⟨fB, yb0, yb1, yb2, yb3, yb4⟩ := st_fin (pc := pc') oF H6.own (r2.below hbz) (r3.below hbz) (hB5.trans (hbz.mono hB5.size)) (Nat.le_refl _) (by omega) (Or.inr rfl)
      simp only [setC, setM] at fA ya0 ya1 ya2 ya3 ya4 fB yb0 yb1 yb2 yb3 yb4
      have FA := hide fA
      have FB := hide fB
      clear fA fB oF H6 hbz
      go_wp2
      exact bodyPost_ret (v := .tuple #[.agg #[.int .i64 pc', .slice ca 8 cp], .agg #[.slice e1 n1 d1, .slice e2 n2 d2, .slice b3' m3 d3'], .int .i64 did, .int .i64 num]) (by first | (simp [results, Tryz.results24, go_sem, ya0, ya1, ya2, ya3, ya4]; done) | (simp [results, Tryz.results24, go_sem, yb0, yb1, yb2, yb3, yb4]; done)) rfl
        ⟨ca, 8, cp, e1, n1, d1, e2, n2, d2, b3', m3, d3', rfl, by first | exact FA.out.1 | exact FB.out.1, by first | exact FA.out.2.1 | exact FB.out.2.1, by first | exact FA.out.2.2 | exact FB.out.2.2⟩

theorem iStep_any (pc : Int) (cb co n cc : Nat) (zs : List Int) (b1 o1 b2 o2 b3 o3 n1 c1 n2 c2 n3 c3 : Nat) (x1 x2 x3 : List Int) (ra : Option Addr) (rn rc : Nat) (rs : List Rg) (w : World)
    (hc : IS w (some ⟨cb, co, none⟩) n cc zs) (h1 : BS w (some ⟨b1, o1, none⟩) n1 c1 x1) (h2 : BS w (some ⟨b2, o2, none⟩) n2 c2 x2) (h3 : BS w (some ⟨b3, o3, none⟩) n3 c3 x3) (hrs : RS w ra rn rc rs) (hlow : ∀ b off, ra = some ⟨b, off, none⟩ → b < w.heap.size) (hcn : n ≤ 1048576) (hn : n1 + n2 + n3 ≤ 1048576) :
    Calls Tryz.prog 24 #[.agg #[.int .i64 pc, .slice (some ⟨cb, co, none⟩) n cc], .agg #[.slice (some ⟨b1, o1, none⟩) n1 c1, .slice (some ⟨b2, o2, none⟩) n2 c2, .slice (some ⟨b3, o3, none⟩) n3 c3], .slice ra rn rc] w (StPost w (stepF pc n zs n1 n2 n3 x1 x2 x3 rs rn)) := by
  unfold stepF
  cases hk : (cok pc n zs && mok n1 n2 n3)
  · rw [if_neg (by simp)]
    exact iStep_bad pc cb co n cc zs b1 o1 b2 o2 b3 o3 n1 c1 n2 c2 n3 c3 x1 x2 x3 ra rn rc w hc h1 h2 h3 hcn hn hk
  · rw [if_pos rfl]
    exact iStep_good pc cb co n cc zs b1 o1 b2 o2 b3 o3 n1 c1 n2 c2 n3 c3 x1 x2 x3 ra rn rc rs w hc h1 h2 h3 hrs hlow hn hk
end Go.Proofs.YtngdgogjlpjjpadGreat
