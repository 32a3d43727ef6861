import Derived.Test.YtaillnegkfagfacGreatJ21
import Derived.Test.YtaillnegkfagfacGreatJ39
import Derived.Test.YtaillnegkfagfacGreatJ09
import Derived.Test.YtaillnegkfagfacGreatJ05
import Derived.Test.YtaillnegkfagfacGreatJ22
import Derived.Test.YtaillnegkfagfacGreatJ30
import Derived.Test.YtaillnegkfagfacGreatJ33
import Derived.Test.YtaillnegkfagfacGreatJ34
namespace Go.Proofs.YtaillnegkfagfacGreat
open Go.RowKit
set_option linter.unusedVariables false
set_option linter.unusedSimpArgs false
set_option maxRecDepth 100000

set_option maxHeartbeats 2000000 in
theorem iStep_bad (pc : Int) (cb co n cc : Nat) (zs : List Int) (b1 o1 b2 o2 b3 o3 n1 c1 n2 c2 n3 c3 : Nat) (x1 x2 x3 : List Int) (ra : Option Addr) (rn rc : Nat) (w : World)
    (hc : IS w (some ⟨cb, co, none⟩) n cc zs) (h1 : BS w (some ⟨b1, o1, none⟩) n1 c1 x1) (h2 : BS w (some ⟨b2, o2, none⟩) n2 c2 x2) (h3 : BS w (some ⟨b3, o3, none⟩) n3 c3 x3) (hcn : n ≤ 1048576) (hn : n1 + n2 + n3 ≤ 1048576) (hbad : (cok pc n zs && mok n1 n2 n3) = false) :
    Calls Tryz.prog 6 #[.agg #[.int .i64 pc, .slice (some ⟨cb, co, none⟩) n cc], .agg #[.slice (some ⟨b1, o1, none⟩) n1 c1, .slice (some ⟨b2, o2, none⟩) n2 c2, .slice (some ⟨b3, o3, none⟩) n3 c3], .slice ra rn rc] w (StPost w ⟨5, 2, pc, zs, x1, x2, x3⟩) := by
  obtain ⟨W, hW⟩ : ∃ W, W = (((w.alloc (.cells #[.int .i64 pc, .slice (some ⟨cb, co, none⟩) n cc] 25)).alloc (.cells #[.slice (some ⟨b1, o1, none⟩) n1 c1, .slice (some ⟨b2, o2, none⟩) n2 c2, .slice (some ⟨b3, o3, none⟩) n3 c3] 27)).alloc (.cells #[.int .i64 0, .slice none 0 0] 25)).alloc (.cells #[.slice none 0 0, .slice none 0 0, .slice none 0 0] 27) := ⟨_, rfl⟩
  have hB0 : Below w.heap.size w W := by rw [hW]; exact ((((Below.refl _ _).alloc (Nat.le_refl _) _).alloc (by simp) _).alloc (by simp; omega) _).alloc (by simp; omega) _
  have k0 : Blk W w.heap.size #[.int .i64 pc, .slice (some ⟨cb, co, none⟩) n cc] 25 := by rw [hW]; exact (((Blk.new w _ _).alloc _).alloc _).alloc _
  have k1 : Blk W (w.heap.size + 1) #[.slice (some ⟨b1, o1, none⟩) n1 c1, .slice (some ⟨b2, o2, none⟩) n2 c2, .slice (some ⟨b3, o3, none⟩) n3 c3] 27 := by
    rw [hW]
    have := ((Blk.new (w.alloc (.cells #[.int .i64 pc, .slice (some ⟨cb, co, none⟩) n cc] 25)) #[.slice (some ⟨b1, o1, none⟩) n1 c1, .slice (some ⟨b2, o2, none⟩) n2 c2, .slice (some ⟨b3, o3, none⟩) n3 c3] 27).alloc (.cells #[.int .i64 0, .slice none 0 0] 25)).alloc (.cells #[.slice none 0 0, .slice none 0 0, .slice none 0 0] 27)
    simpa only [World.size_alloc] using this
  have k2 : Blk W (w.heap.size + 1 + 1) #[.int .i64 0, .slice none 0 0] 25 := by
    rw [hW]
    have := (Blk.new ((w.alloc (.cells #[.int .i64 pc, .slice (some ⟨cb, co, none⟩) n cc] 25)).alloc (.cells #[.slice (some ⟨b1, o1, none⟩) n1 c1, .slice (some ⟨b2, o2, none⟩) n2 c2, .slice (some ⟨b3, o3, none⟩) n3 c3] 27)) #[.int .i64 0, .slice none 0 0] 25).alloc (.cells #[.slice none 0 0, .slice none 0 0, .slice none 0 0] 27)
    simpa only [World.size_alloc] using this
  have k3 : Blk W (w.heap.size + 1 + 1 + 1) #[.slice none 0 0, .slice none 0 0, .slice none 0 0] 27 := by
    rw [hW]
    have := Blk.new (((w.alloc (.cells #[.int .i64 pc, .slice (some ⟨cb, co, none⟩) n cc] 25)).alloc (.cells #[.slice (some ⟨b1, o1, none⟩) n1 c1, .slice (some ⟨b2, o2, none⟩) n2 c2, .slice (some ⟨b3, o3, none⟩) n3 c3] 27)).alloc (.cells #[.int .i64 0, .slice none 0 0] 25)) #[.slice none 0 0, .slice none 0 0, .slice none 0 0] 27
    simpa only [World.size_alloc] using this
  have HC := hide (fun w h => coreOk_any pc (some ⟨cb, co, none⟩) n cc zs w h)
  have HM := hide (fun w => iMemOk_any (some ⟨b1, o1, none⟩) (some ⟨b2, o2, none⟩) (some ⟨b3, o3, none⟩) n1 c1 n2 c2 n3 c3 w)
  have HCC := hide (fun w h => copyCore_any pc cb co n cc zs w h hcn)
  have HCM := hide (fun w h1 h2 h3 => copyMem_any b1 o1 b2 o2 b3 o3 n1 c1 n2 c2 n3 c3 x1 x2 x3 w h1 h2 h3 hn)
  have hc0 := hc.below hB0
  have h10 := h1.below hB0
  have h20 := h2.below hB0
  have h30 := h3.below hB0
  generalize cok pc n zs = C at *
  generalize mok n1 n2 n3 = MM at *
  have ne0 : w.heap.size ≠ w.heap.size + 1 := by omega
  have ne1 : w.heap.size ≠ w.heap.size + 1 + 1 := by omega
  have ne2 : w.heap.size ≠ w.heap.size + 1 + 1 + 1 := by omega
  have ne3 : w.heap.size + 1 ≠ w.heap.size := by omega
  have ne4 : w.heap.size + 1 ≠ w.heap.size + 1 + 1 := by omega
  have ne5 : w.heap.size + 1 ≠ w.heap.size + 1 + 1 + 1 := by omega
  have ne6 : w.heap.size + 1 + 1 ≠ w.heap.size := by omega
  have ne7 : w.heap.size + 1 + 1 ≠ w.heap.size + 1 := by omega
  have ne8 : w.heap.size + 1 + 1 ≠ w.heap.size + 1 + 1 + 1 := by omega
  have ne9 : w.heap.size + 1 + 1 + 1 ≠ w.heap.size := by omega
  have ne10 : w.heap.size + 1 + 1 + 1 ≠ w.heap.size + 1 := by omega
  have ne11 : w.heap.size + 1 + 1 + 1 ≠ w.heap.size + 1 + 1 := by omega
  go_enter Tryz.func6, Tryz.ntmps6
  go_wp2_with fail
  rw [← hW]
  clear hW
  refine (HC.out _ hc0).mono ?_
  rintro e w1 ⟨rfl, hb1⟩
  have q0 := k0.below hb1
  have q1 := k1.below hb1
  have q2 := k2.below hb1
  have q3 := k3.below hb1
  have hB := hB0.trans (hb1.mono hB0.size)
  have cV := hc0.below hb1
  have m1V := h10.below hb1
  have m2V := h20.below hb1
  have m3V := h30.below hb1
  clear hb1 k0 k1 k2 k3 hc h1 h2 h3 hc0 h10 h20 h30 hB0
  cases C
  · clear hbad
    obtain ⟨t1, t2, t3⟩ := q0.two'
    obtain ⟨s1, s2, s3, s4⟩ := q1.three
    go_wp2_with fail
    go_region_held3 (fun w' => w'.cell? ⟨w.heap.size, 0, none⟩ = some (.int .i64 pc) ∧ w'.cell? ⟨w.heap.size, 1, none⟩ = some (.slice (some ⟨cb, co, none⟩) n cc) ∧ w'.cell? ⟨w.heap.size + 1, 0, none⟩ = some (.slice (some ⟨b1, o1, none⟩) n1 c1) ∧ w'.cell? ⟨w.heap.size + 1, 1, none⟩ = some (.slice (some ⟨b2, o2, none⟩) n2 c2) ∧ w'.cell? ⟨w.heap.size + 1, 2, none⟩ = some (.slice (some ⟨b3, o3, none⟩) n3 c3)) (go_keep)
      (first
        | (go_at_call 30; refine (HCC.out _ (by exact cV)).mono ?_; rintro e u1 ⟨ca, cp, rfl, oC, hbx⟩; replace hbx := undrew hbx; obtain ⟨t1, t2, t3⟩ := (q0.below hbx).two'; obtain ⟨s1, s2, s3, s4⟩ := (q1.below hbx).three)
        | (go_at_call 31; refine (HCM.out _ (m1V.below hbx) (m2V.below hbx) (m3V.below hbx)).mono ?_; rintro e u2 ⟨e1, d1, e2, d2, e3, d3, rfl, mF0, hby⟩; have bF := hbx.trans (hby.mono hbx.size); have oF : OI u2 w1.heap.size (.slice ca n cp) zs := OI.below (by exact oC) hby; have mF := own3_mono mF0 hbx.size; obtain ⟨t1, t2, t3⟩ := (q0.below bF).two'; obtain ⟨s1, s2, s3, s4⟩ := (q1.below bF).three; obtain ⟨z1, z2, z3⟩ := (q2.below bF).two'; obtain ⟨z4, z5, z6, z7⟩ := (q3.below bF).three)
        | (go_at_call 31; refine (HCM.out _ (by exact m1V) (by exact m2V) (by exact m3V)).mono ?_; rintro e u1 ⟨e1, d1, e2, d2, e3, d3, rfl, mM, hbx⟩; replace hbx := undrew hbx; obtain ⟨t1, t2, t3⟩ := (q0.below hbx).two'; obtain ⟨s1, s2, s3, s4⟩ := (q1.below hbx).three)
        | (go_at_call 30; refine (HCC.out _ (cV.below hbx)).mono ?_; rintro e u2 ⟨ca, cp, rfl, oC0, hby⟩; have bF := hbx.trans (hby.mono hbx.size); have mF : Own3 u2 w1.heap.size (.slice e1 n1 d1) (.slice e2 n2 d2) (.slice e3 n3 d3) x1 x2 x3 := own3_below (by exact mM) hby; have oF := oC0.mono hbx.size; obtain ⟨t1, t2, t3⟩ := (q0.below bF).two'; obtain ⟨s1, s2, s3, s4⟩ := (q1.below bF).three; obtain ⟨z1, z2, z3⟩ := (q2.below bF).two'; obtain ⟨z4, z5, z6, z7⟩ := (q3.below bF).three))
    all_goals
      obtain ⟨fA, ya0, ya1, ya2, ya3, ya4⟩ := st_fin (pc := pc) oF mF (q2.below bF) (q3.below bF) (hB.trans (bF.mono hB.size)) hB.size (by omega) (Or.inl rfl)
      obtain ⟨fB, yb0, yb1, yb2, yb3, yb4⟩ := st_fin (pc := pc) oF mF (q2.below bF) (q3.below bF) (hB.trans (bF.mono hB.size)) hB.size (by omega) (Or.inr rfl)
      simp only [setC, setM] at fA ya0 ya1 ya2 ya3 ya4 fB yb0 yb1 yb2 yb3 yb4
      have FA := hide fA
      have FB := hide fB
      clear fA fB oF mF bF
      go_wp2
      exact bodyPost_ret (v := .tuple #[.agg #[.int .i64 pc, .slice ca n cp], .agg #[.slice e1 n1 d1, .slice e2 n2 d2, .slice e3 n3 d3], .int .i64 5, .int .i64 2]) (by first | (simp [results, Tryz.results6, go_sem, ya0, ya1, ya2, ya3, ya4]; done) | (simp [results, Tryz.results6, go_sem, yb0, yb1, yb2, yb3, yb4]; done)) rfl
        ⟨ca, n, cp, e1, n1, d1, e2, n2, d2, e3, n3, d3, rfl, by first | exact FA.out.1 | exact FB.out.1, by first | exact FA.out.2.1 | exact FB.out.2.1, by first | exact FA.out.2.2 | exact FB.out.2.2⟩

  · have hMM : MM = false := by simpa using hbad
    subst hMM
    clear hbad
    obtain ⟨t1, t2, t3⟩ := q0.two'
    obtain ⟨s1, s2, s3, s4⟩ := q1.three
    go_wp2_with fail
    refine (HM.out _).mono ?_
    rintro e w2 ⟨rfl, hb2⟩
    replace q0 := q0.below hb2
    replace q1 := q1.below hb2
    replace q2 := q2.below hb2
    replace q3 := q3.below hb2
    replace hB := hB.trans (hb2.mono hB.size)
    replace cV := cV.below hb2
    replace m1V := m1V.below hb2
    replace m2V := m2V.below hb2
    replace m3V := m3V.below hb2
    clear hb2 t1 t2 t3 s1 s2 s3 s4
    obtain ⟨t1, t2, t3⟩ := q0.two'
    obtain ⟨s1, s2, s3, s4⟩ := q1.three
    go_wp2_with fail
    go_region_held3 (fun w' => w'.cell? ⟨w.heap.size, 0, none⟩ = some (.int .i64 pc) ∧ w'.cell? ⟨w.heap.size, 1, none⟩ = some (.slice (some ⟨cb, co, none⟩) n cc) ∧ w'.cell? ⟨w.heap.size + 1, 0, none⟩ = some (.slice (some ⟨b1, o1, none⟩) n1 c1) ∧ w'.cell? ⟨w.heap.size + 1, 1, none⟩ = some (.slice (some ⟨b2, o2, none⟩) n2 c2) ∧ w'.cell? ⟨w.heap.size + 1, 2, none⟩ = some (.slice (some ⟨b3, o3, none⟩) n3 c3)) (go_keep)
      (first
        | (go_at_call 30; refine (HCC.out _ (by exact cV)).mono ?_; rintro e u1 ⟨ca, cp, rfl, oC, hbx⟩; replace hbx := undrew hbx; obtain ⟨t1, t2, t3⟩ := (q0.below hbx).two'; obtain ⟨s1, s2, s3, s4⟩ := (q1.below hbx).three)
        | (go_at_call 31; refine (HCM.out _ (m1V.below hbx) (m2V.below hbx) (m3V.below hbx)).mono ?_; rintro e u2 ⟨e1, d1, e2, d2, e3, d3, rfl, mF0, hby⟩; have bF := hbx.trans (hby.mono hbx.size); have oF : OI u2 w2.heap.size (.slice ca n cp) zs := OI.below (by exact oC) hby; have mF := own3_mono mF0 hbx.size; obtain ⟨t1, t2, t3⟩ := (q0.below bF).two'; obtain ⟨s1, s2, s3, s4⟩ := (q1.below bF).three; obtain ⟨z1, z2, z3⟩ := (q2.below bF).two'; obtain ⟨z4, z5, z6, z7⟩ := (q3.below bF).three)
        | (go_at_call 31; refine (HCM.out _ (by exact m1V) (by exact m2V) (by exact m3V)).mono ?_; rintro e u1 ⟨e1, d1, e2, d2, e3, d3, rfl, mM, hbx⟩; replace hbx := undrew hbx; obtain ⟨t1, t2, t3⟩ := (q0.below hbx).two'; obtain ⟨s1, s2, s3, s4⟩ := (q1.below hbx).three)
        | (go_at_call 30; refine (HCC.out _ (cV.below hbx)).mono ?_; rintro e u2 ⟨ca, cp, rfl, oC0, hby⟩; have bF := hbx.trans (hby.mono hbx.size); have mF : Own3 u2 w2.heap.size (.slice e1 n1 d1) (.slice e2 n2 d2) (.slice e3 n3 d3) x1 x2 x3 := own3_below (by exact mM) hby; have oF := oC0.mono hbx.size; obtain ⟨t1, t2, t3⟩ := (q0.below bF).two'; obtain ⟨s1, s2, s3, s4⟩ := (q1.below bF).three; obtain ⟨z1, z2, z3⟩ := (q2.below bF).two'; obtain ⟨z4, z5, z6, z7⟩ := (q3.below bF).three))
    all_goals
      obtain ⟨fA, ya0, ya1, ya2, ya3, ya4⟩ := st_fin (pc := pc) oF mF (q2.below bF) (q3.below bF) (hB.trans (bF.mono hB.size)) hB.size (by omega) (Or.inl rfl)
      obtain ⟨fB, yb0, yb1, yb2, yb3, yb4⟩ := st_fin (pc := pc) oF mF (q2.below bF) (q3.below bF) (hB.trans (bF.mono hB.size)) hB.size (by omega) (Or.inr rfl)
      simp only [setC, setM] at fA ya0 ya1 ya2 ya3 ya4 fB yb0 yb1 yb2 yb3 yb4
      have FA := hide fA
      have FB := hide fB
      clear fA fB oF mF bF
      go_wp2
      exact bodyPost_ret (v := .tuple #[.agg #[.int .i64 pc, .slice ca n cp], .agg #[.slice e1 n1 d1, .slice e2 n2 d2, .slice e3 n3 d3], .int .i64 5, .int .i64 2]) (by first | (simp [results, Tryz.results6, go_sem, ya0, ya1, ya2, ya3, ya4]; done) | (simp [results, Tryz.results6, go_sem, yb0, yb1, yb2, yb3, yb4]; done)) rfl
        ⟨ca, n, cp, e1, n1, d1, e2, n2, d2, e3, n3, d3, rfl, by first | exact FA.out.1 | exact FB.out.1, by first | exact FA.out.2.1 | exact FB.out.2.1, by first | exact FA.out.2.2 | exact FB.out.2.2⟩
end Go.Proofs.YtaillnegkfagfacGreat

namespace Go.Proofs.YtaillnegkfagfacGreat
open Go.RowKit
set_option linter.unusedVariables false
set_option linter.unusedSimpArgs false
set_option maxRecDepth 100000

/-- WHAT Step DOES. -/
def stepF (pc : Int) (n : Nat) (zs : List Int) (n1 n2 n3 : Nat) (x1 x2 x3 : List Int) (rs : List Rg) (rn : Nat) : Res :=
  if (cok pc n zs && mok n1 n2 n3) = true then stp pc zs n1 n2 n3 x1 x2 x3 rs rn else ⟨5, 2, pc, zs, x1, x2, x3⟩
theorem cok_parts {pc : Int} {n : Nat} {zs : List Int} (h : cok pc n zs = true) : 0 ≤ pc ∧ pc ≤ 4294967295 ∧ n = 8 ∧ ∀ z ∈ zs, 0 ≤ z ∧ z ≤ 4294967295 := by
  unfold cok at h
  simp only [Bool.and_eq_true, decide_eq_true_eq, List.all_eq_true] at h
  exact ⟨h.1.1, h.1.2.1, h.1.2.2, h.2⟩
set_option maxHeartbeats 2000000 in
theorem iStep_good (pc : Int) (cb co n cc : Nat) (zs : List Int) (b1 o1 b2 o2 b3 o3 n1 c1 n2 c2 n3 c3 : Nat) (x1 x2 x3 : List Int) (ra : Option Addr) (rn rc : Nat) (rs : List Rg) (w : World)
    (hc : IS w (some ⟨cb, co, none⟩) n cc zs) (h1 : BS w (some ⟨b1, o1, none⟩) n1 c1 x1) (h2 : BS w (some ⟨b2, o2, none⟩) n2 c2 x2) (h3 : BS w (some ⟨b3, o3, none⟩) n3 c3 x3) (hrs : RS w ra rn rc rs) (hlow : ∀ b off, ra = some ⟨b, off, none⟩ → b < w.heap.size) (hn : n1 + n2 + n3 ≤ 1048576) (hgood : (cok pc n zs && mok n1 n2 n3) = true) :
    Calls Tryz.prog 6 #[.agg #[.int .i64 pc, .slice (some ⟨cb, co, none⟩) n cc], .agg #[.slice (some ⟨b1, o1, none⟩) n1 c1, .slice (some ⟨b2, o2, none⟩) n2 c2, .slice (some ⟨b3, o3, none⟩) n3 c3], .slice ra rn rc] w (StPost w (stp pc zs n1 n2 n3 x1 x2 x3 rs rn)) := by
  obtain ⟨W, hW⟩ : ∃ W, W = (((w.alloc (.cells #[.int .i64 pc, .slice (some ⟨cb, co, none⟩) n cc] 25)).alloc (.cells #[.slice (some ⟨b1, o1, none⟩) n1 c1, .slice (some ⟨b2, o2, none⟩) n2 c2, .slice (some ⟨b3, o3, none⟩) n3 c3] 27)).alloc (.cells #[.int .i64 0, .slice none 0 0] 25)).alloc (.cells #[.slice none 0 0, .slice none 0 0, .slice none 0 0] 27) := ⟨_, rfl⟩
  have hB0 : Below w.heap.size w W := by rw [hW]; exact ((((Below.refl _ _).alloc (Nat.le_refl _) _).alloc (by simp) _).alloc (by simp; omega) _).alloc (by simp; omega) _
  have k0 : Blk W w.heap.size #[.int .i64 pc, .slice (some ⟨cb, co, none⟩) n cc] 25 := by rw [hW]; exact (((Blk.new w _ _).alloc _).alloc _).alloc _
  have k1 : Blk W (w.heap.size + 1) #[.slice (some ⟨b1, o1, none⟩) n1 c1, .slice (some ⟨b2, o2, none⟩) n2 c2, .slice (some ⟨b3, o3, none⟩) n3 c3] 27 := by
    rw [hW]
    have := ((Blk.new (w.alloc (.cells #[.int .i64 pc, .slice (some ⟨cb, co, none⟩) n cc] 25)) #[.slice (some ⟨b1, o1, none⟩) n1 c1, .slice (some ⟨b2, o2, none⟩) n2 c2, .slice (some ⟨b3, o3, none⟩) n3 c3] 27).alloc (.cells #[.int .i64 0, .slice none 0 0] 25)).alloc (.cells #[.slice none 0 0, .slice none 0 0, .slice none 0 0] 27)
    simpa only [World.size_alloc] using this
  have k2 : Blk W (w.heap.size + 1 + 1) #[.int .i64 0, .slice none 0 0] 25 := by
    rw [hW]
    have := (Blk.new ((w.alloc (.cells #[.int .i64 pc, .slice (some ⟨cb, co, none⟩) n cc] 25)).alloc (.cells #[.slice (some ⟨b1, o1, none⟩) n1 c1, .slice (some ⟨b2, o2, none⟩) n2 c2, .slice (some ⟨b3, o3, none⟩) n3 c3] 27)) #[.int .i64 0, .slice none 0 0] 25).alloc (.cells #[.slice none 0 0, .slice none 0 0, .slice none 0 0] 27)
    simpa only [World.size_alloc] using this
  have k3 : Blk W (w.heap.size + 1 + 1 + 1) #[.slice none 0 0, .slice none 0 0, .slice none 0 0] 27 := by
    rw [hW]
    have := Blk.new (((w.alloc (.cells #[.int .i64 pc, .slice (some ⟨cb, co, none⟩) n cc] 25)).alloc (.cells #[.slice (some ⟨b1, o1, none⟩) n1 c1, .slice (some ⟨b2, o2, none⟩) n2 c2, .slice (some ⟨b3, o3, none⟩) n3 c3] 27)).alloc (.cells #[.int .i64 0, .slice none 0 0] 25)) #[.slice none 0 0, .slice none 0 0, .slice none 0 0] 27
    simpa only [World.size_alloc] using this
  have HC := hide (fun w h => coreOk_any pc (some ⟨cb, co, none⟩) n cc zs w h)
  have HM := hide (fun w => iMemOk_any (some ⟨b1, o1, none⟩) (some ⟨b2, o2, none⟩) (some ⟨b3, o3, none⟩) n1 c1 n2 c2 n3 c3 w)
  have HCM := hide (fun w h1 h2 h3 => copyMem_any b1 o1 b2 o2 b3 o3 n1 c1 n2 c2 n3 c3 x1 x2 x3 w h1 h2 h3 hn)
  have hc0 := hc.below hB0
  have h10 := h1.below hB0
  have h20 := h2.below hB0
  have h30 := h3.below hB0
  have hok : cok pc n zs = true ∧ mok n1 n2 n3 = true := by simpa using hgood
  obtain ⟨p0, p1, rfl, hzr⟩ := cok_parts hok.1
  rw [hok.1] at HC
  rw [hok.2] at HM
  have HNP := hide (fun (w : World) (e1 e2 e3 : Option Addr) (d1 d2 d3 : Nat) h => newP_any pc cb co cc zs e1 e2 e3 n1 d1 n2 d2 n3 d3 ra rn rc w h p0 p1 hzr)
  have HST := hide (fun (g : Nat) (W : World) (e1 e2 e3 : Option Addr) (d1 d2 d3 : Nat) h => pstep_any g w.heap.size pc zs e1 e2 e3 n1 d1 n2 d2 n3 d3 x1 x2 x3 ra rn rc rs W h)
  generalize stp pc zs n1 n2 n3 x1 x2 x3 rs rn = r at *
  obtain ⟨did, num, pc', rg', y1, y2, y3⟩ := r
  have hrs0 := hrs.below hB0
  clear hok hgood
  have ne0 : w.heap.size ≠ w.heap.size + 1 := by omega
  have ne1 : w.heap.size ≠ w.heap.size + 1 + 1 := by omega
  have ne2 : w.heap.size ≠ w.heap.size + 1 + 1 + 1 := by omega
  have ne3 : w.heap.size + 1 ≠ w.heap.size := by omega
  have ne4 : w.heap.size + 1 ≠ w.heap.size + 1 + 1 := by omega
  have ne5 : w.heap.size + 1 ≠ w.heap.size + 1 + 1 + 1 := by omega
  have ne6 : w.heap.size + 1 + 1 ≠ w.heap.size := by omega
  have ne7 : w.heap.size + 1 + 1 ≠ w.heap.size + 1 := by omega
  have ne8 : w.heap.size + 1 + 1 ≠ w.heap.size + 1 + 1 + 1 := by omega
  have ne9 : w.heap.size + 1 + 1 + 1 ≠ w.heap.size := by omega
  have ne10 : w.heap.size + 1 + 1 + 1 ≠ w.heap.size + 1 := by omega
  have ne11 : w.heap.size + 1 + 1 + 1 ≠ w.heap.size + 1 + 1 := by omega
  go_enter Tryz.func6, Tryz.ntmps6
  go_wp2_with fail
  rw [← hW]
  clear hW
  refine (HC.out _ hc0).mono ?_
  rintro e w1 ⟨rfl, hb1⟩
  obtain ⟨s1, s2, s3, s4⟩ := (k1.below hb1).three
  go_wp2_with fail
  refine (HM.out _).mono ?_
  rintro e w2 ⟨rfl, hb2⟩
  have hb12 := hb1.trans (hb2.mono hb1.size)
  have q0 := k0.below hb12
  have q1 := k1.below hb12
  have q2 := k2.below hb12
  have q3 := k3.below hb12
  have hB := hB0.trans (hb12.mono hB0.size)
  have cV := hc0.below hb12
  have m1V := h10.below hb12
  have m2V := h20.below hb12
  have m3V := h30.below hb12
  have rV := hrs0.below hb12
  clear hb1 hb2 hb12 k0 k1 k2 k3 hc h1 h2 h3 hc0 h10 h20 h30 hB0 hrs hrs0 s1 s2 s3 s4
  obtain ⟨t1, t2, t3⟩ := q0.two'
  obtain ⟨s1, s2, s3, s4⟩ := q1.three
  go_wp2_with fail
  go_region_held3 (fun w' => w'.cell? ⟨w.heap.size, 0, none⟩ = some (.int .i64 pc) ∧ w'.cell? ⟨w.heap.size, 1, none⟩ = some (.slice (some ⟨cb, co, none⟩) 8 cc) ∧ w'.cell? ⟨w.heap.size + 1, 0, none⟩ = some (.slice (some ⟨b1, o1, none⟩) n1 c1) ∧ w'.cell? ⟨w.heap.size + 1, 1, none⟩ = some (.slice (some ⟨b2, o2, none⟩) n2 c2) ∧ w'.cell? ⟨w.heap.size + 1, 2, none⟩ = some (.slice (some ⟨b3, o3, none⟩) n3 c3)) (go_keep)
    (first
      | (go_at_call 31; refine (HCM.out _ (by exact m1V) (by exact m2V) (by exact m3V)).mono ?_; rintro e u1 ⟨e1, d1, e2, d2, e3, d3, rfl, mM, hbx⟩; replace hbx := undrew hbx; obtain ⟨t1, t2, t3⟩ := (q0.below hbx).two'; obtain ⟨s1, s2, s3, s4⟩ := (q1.below hbx).three)
      | (go_at_call 32; refine (HNP.out _ _ _ _ _ _ _ (cV.below hbx)).mono ?_; rintro e u2 ⟨g, hg, rfl, pr, hby⟩; obtain ⟨t1, t2, t3⟩ := ((q0.below hbx).below hby).two'; obtain ⟨s1, s2, s3, s4⟩ := ((q1.below hbx).below hby).three))
  all_goals
    have bF := hbx.trans (hby.mono hbx.size)
    have hw2 := hB.size
    have hu1 := hbx.size
    have H3 : Pm u2 g w.heap.size pc zs e1 e2 e3 n1 d1 n2 d2 n3 d3 x1 x2 x3 ra rn rc rs := by
      refine ⟨pr, own3_mono (own3_below mM hby) (by simpa using hw2), ?_, by omega, (rV.below bF), hlow⟩
      intro v hv hk
      have := hv.elim (fun e => (mM.1.lt g (e ▸ hk)).2) (fun e => e.elim (fun e => (mM.2.1.lt g (e ▸ hk)).2) (fun e => (mM.2.2.1.lt g (e ▸ hk)).2))
      omega
    have q2' := q2.below bF
    have q3' := q3.below bF
    have hB3 := hB.trans (bF.mono hB.size)
    have hg2 : w.heap.size + 1 + 1 ≠ g := by have := q2.lt; omega
    have hg3 : w.heap.size + 1 + 1 + 1 ≠ g := by have := q3.lt; omega
    clear hbx hby mM pr bF q0 q1 q2 q3 cV m1V m2V m3V rV t1 t2 t3 s1 s2 s3 s4
    go_wp2_with fail
    refine (HST.out _ _ _ _ _ _ _ _ H3).mono ?_
    rintro e w4 ⟨b3', m3, d3', rfl, H4, T4, K4⟩
    dsimp only at H4
    have kx := Blk.new w4 #[.int .i64 did, .int .i64 num] 65
    have hA := (Below.refl w4.heap.size w4).alloc (Nat.le_refl _) (.cells #[.int .i64 did, .int .i64 num] 65)
    have H5 := H4.below hA
    have r30 := K4 _ _ _ q3' hg3 (by decide)
    have w4s := r30.lt
    have r2 := (K4 _ _ _ q2' hg2 (by decide)).below hA
    have r3 := (K4 _ _ _ q3' hg3 (by decide)).below hA
    have hB5 : Below w.heap.size w (w4.alloc (.cells #[.int .i64 did, .int .i64 num] 65)) := (below_turn hB3 T4 (fun k e => e) hB3.size).alloc (Nat.le_trans hB3.size T4.size) _
    have HCO := hide (fun W h => pcore_any g pc' rg' (.slice e1 n1 d1) (.slice e2 n2 d2) (.slice b3' m3 d3') (.slice ra rn rc) W h)
    have hgl := H4.pr.blk.lt
    clear H3 H4 T4 K4 q2' q3' hB3 hA
    have nf0 : g ≠ w.heap.size + 1 + 1 := by omega
    have nf1 : g ≠ w.heap.size + 1 + 1 + 1 := by omega
    have nf2 : w4.heap.size ≠ w.heap.size + 1 + 1 := by omega
    have nf3 : w4.heap.size ≠ w.heap.size + 1 + 1 + 1 := by omega
    have nf4 : w.heap.size + 1 + 1 ≠ w4.heap.size := by omega
    have nf5 : w.heap.size + 1 + 1 + 1 ≠ w4.heap.size := by omega
    obtain ⟨j1, j2, j3, j4⟩ := H5.pr.mem
    obtain ⟨x4, x5, x6⟩ := kx.two'
    go_wp2_with fail
    go_region_held3 (fun w' => w'.cell? ⟨g, 9, none⟩ = some (.slice e1 n1 d1) ∧ w'.cell? ⟨g, 10, none⟩ = some (.slice e2 n2 d2) ∧ w'.cell? ⟨g, 11, none⟩ = some (.slice b3' m3 d3') ∧ w'.cell? ⟨w4.heap.size, 0, none⟩ = some (.int .i64 did) ∧ w'.cell? ⟨w4.heap.size, 1, none⟩ = some (.int .i64 num)) (go_keep)
      (first
        | (go_at_call 34; refine (HCO.out _ (by exact ⟨H5.pr.blk, H5.pr.len, H5.pr.pcw, H5.pr.rgw⟩)).mono ?_; rintro e u5 ⟨ca, cp, rfl, oC, hbz⟩; replace hbz := undrew hbz; have H6 := H5.below hbz; obtain ⟨j1, j2, j3, j4⟩ := H6.pr.mem; obtain ⟨x4, x5, x6⟩ := (kx.below hbz).two'; obtain ⟨z1, z2, z3⟩ := (r2.below hbz).two'; obtain ⟨z4, z5, z6, z7⟩ := (r3.below hbz).three))
    all_goals
      have oF : OI u5 w.heap.size (.slice ca 8 cp) rg' := OI.mono oC (by simp only [heap_drew, World.size_alloc]; omega)
      obtain ⟨fA, ya0, ya1, ya2, ya3, ya4⟩ := st_fin (pc := pc') oF H6.own (r2.below hbz) (r3.below hbz) (hB5.trans (hbz.mono hB5.size)) (Nat.le_refl _) (by omega) (Or.inl rfl)
      obtain ⟨fB, yb0, yb1, yb2, yb3, yb4⟩ := st_fin (pc := pc') oF H6.own (r2.below hbz) (r3.below hbz) (hB5.trans (hbz.mono hB5.size)) (Nat.le_refl _) (by omega) (Or.inr rfl)
      simp only [setC, setM] at fA ya0 ya1 ya2 ya3 ya4 fB yb0 yb1 yb2 yb3 yb4
      have FA := hide fA
      have FB := hide fB
      clear fA fB oF H6 hbz
      go_wp2
      exact bodyPost_ret (v := .tuple #[.agg #[.int .i64 pc', .slice ca 8 cp], .agg #[.slice e1 n1 d1, .slice e2 n2 d2, .slice b3' m3 d3'], .int .i64 did, .int .i64 num]) (by first | (simp [results, Tryz.results6, go_sem, ya0, ya1, ya2, ya3, ya4]; done) | (simp [results, Tryz.results6, go_sem, yb0, yb1, yb2, yb3, yb4]; done)) rfl
        ⟨ca, 8, cp, e1, n1, d1, e2, n2, d2, b3', m3, d3', rfl, by first | exact FA.out.1 | exact FB.out.1, by first | exact FA.out.2.1 | exact FB.out.2.1, by first | exact FA.out.2.2 | exact FB.out.2.2⟩

theorem iStep_any (pc : Int) (cb co n cc : Nat) (zs : List Int) (b1 o1 b2 o2 b3 o3 n1 c1 n2 c2 n3 c3 : Nat) (x1 x2 x3 : List Int) (ra : Option Addr) (rn rc : Nat) (rs : List Rg) (w : World)
    (hc : IS w (some ⟨cb, co, none⟩) n cc zs) (h1 : BS w (some ⟨b1, o1, none⟩) n1 c1 x1) (h2 : BS w (some ⟨b2, o2, none⟩) n2 c2 x2) (h3 : BS w (some ⟨b3, o3, none⟩) n3 c3 x3) (hrs : RS w ra rn rc rs) (hlow : ∀ b off, ra = some ⟨b, off, none⟩ → b < w.heap.size) (hcn : n ≤ 1048576) (hn : n1 + n2 + n3 ≤ 1048576) :
    Calls Tryz.prog 6 #[.agg #[.int .i64 pc, .slice (some ⟨cb, co, none⟩) n cc], .agg #[.slice (some ⟨b1, o1, none⟩) n1 c1, .slice (some ⟨b2, o2, none⟩) n2 c2, .slice (some ⟨b3, o3, none⟩) n3 c3], .slice ra rn rc] w (StPost w (stepF pc n zs n1 n2 n3 x1 x2 x3 rs rn)) := by
  unfold stepF
  cases hk : (cok pc n zs && mok n1 n2 n3)
  · rw [if_neg (by simp)]
    exact iStep_bad pc cb co n cc zs b1 o1 b2 o2 b3 o3 n1 c1 n2 c2 n3 c3 x1 x2 x3 ra rn rc w hc h1 h2 h3 hcn hn hk
  · rw [if_pos rfl]
    exact iStep_good pc cb co n cc zs b1 o1 b2 o2 b3 o3 n1 c1 n2 c2 n3 c3 x1 x2 x3 ra rn rc rs w hc h1 h2 h3 hrs hlow hn hk
end Go.Proofs.YtaillnegkfagfacGreat

namespace Go.Proofs.YtaillnegkfagfacGreat
open Go.RowKit
set_option linter.unusedVariables false
set_option linter.unusedSimpArgs false
set_option maxRecDepth 100000

/-- THE WORLD AS THE DOCUMENT'S Step HOLDS IT: the boxes of its arguments, its results' blocks, its core at A, its memory at B. -/
structure Ss (w W : World) (A B : Nat) (pc : Int) (cb co n cc : Nat) (zs : List Int) (b1 o1 b2 o2 b3 o3 n1 c1 n2 c2 n3 c3 : Nat) (x1 x2 x3 : List Int) (ra : Option Addr) (rn rc : Nat) (rs : List Rg) (pv : Int) (cv : Value) (zv : List Int) (v1 v2 v3 : Value) (y1 y2 y3 : List Int) : Prop where
  below : Below w.heap.size w W
  k0 : Blk W (w.heap.size) #[.int .i64 pc, .slice (some ⟨cb, co, none⟩) n cc] 25
  k1 : Blk W (w.heap.size + 1) #[.slice (some ⟨b1, o1, none⟩) n1 c1, .slice (some ⟨b2, o2, none⟩) n2 c2, .slice (some ⟨b3, o3, none⟩) n3 c3] 27
  k2 : Blk W (w.heap.size + 1 + 1) #[.int .i64 0, .slice none 0 0] 25
  k3 : Blk W (w.heap.size + 1 + 1 + 1) #[.slice none 0 0, .slice none 0 0, .slice none 0 0] 27
  kA : Blk W A #[.int .i64 pv, cv] 25
  kB : Blk W B #[v1, v2, v3] 27
  hA : w.heap.size + 1 + 1 + 1 < A
  hAB : A < B
  oc : OI W w.heap.size cv zv
  om : Own3 W w.heap.size v1 v2 v3 y1 y2 y3
  ic : IS W (some ⟨cb, co, none⟩) n cc zs
  i1 : BS W (some ⟨b1, o1, none⟩) n1 c1 x1
  i2 : BS W (some ⟨b2, o2, none⟩) n2 c2 x2
  i3 : BS W (some ⟨b3, o3, none⟩) n3 c3 x3
  rs : RS W ra rn rc rs
theorem Ss.step {w W W' : World} {A B : Nat} {pc : Int} {cb co n cc : Nat} {zs : List Int} {b1 o1 b2 o2 b3 o3 n1 c1 n2 c2 n3 c3 : Nat} {x1 x2 x3 : List Int} {ra : Option Addr} {rn rc : Nat} {rs : List Rg} {pv : Int} {cv : Value} {zv : List Int} {v1 v2 v3 : Value} {y1 y2 y3 : List Int} (h : Ss w W A B pc cb co n cc zs b1 o1 b2 o2 b3 o3 n1 c1 n2 c2 n3 c3 x1 x2 x3 ra rn rc rs pv cv zv v1 v2 v3 y1 y2 y3) (b : Below W.heap.size W W') : Ss w W' A B pc cb co n cc zs b1 o1 b2 o2 b3 o3 n1 c1 n2 c2 n3 c3 x1 x2 x3 ra rn rc rs pv cv zv v1 v2 v3 y1 y2 y3 :=
  ⟨h.below.trans (b.mono h.below.size), h.k0.below b, h.k1.below b, h.k2.below b, h.k3.below b, h.kA.below b, h.kB.below b, h.hA, h.hAB, h.oc.below b, own3_below h.om b, h.ic.below b, h.i1.below b, h.i2.below b, h.i3.below b, h.rs.below b⟩
theorem st_find {w W X : World} {R base : Nat} {pc : Int} {c v1 v2 v3 u0 u1 t0 t1 t2 : Value} {zs x1 x2 x3 : List Int} (ho : OI W base c zs) (hm : Own3 W base v1 v2 v3 x1 x2 x3) (kr : Blk W R #[u0, u1] 25) (km : Blk W (R + 1) #[t0, t1, t2] 27)
    (hB : Below w.heap.size w W) (hb : w.heap.size ≤ base) (hR : w.heap.size ≤ R)
    (hX : X = setM (setC W R (.int .i64 pc) c) (R + 1) v1 v2 v3 ∨ X = setC (setM W (R + 1) v1 v2 v3) R (.int .i64 pc) c) :
    (OI X.drew w.heap.size c zs ∧ Own3 X.drew w.heap.size v1 v2 v3 x1 x2 x3 ∧ Below w.heap.size w X.drew) ∧
      X.drew.cell? ⟨R, 0, none⟩ = some (.int .i64 pc) ∧ X.drew.cell? ⟨R, 1, none⟩ = some c ∧ X.drew.cell? ⟨R + 1, 0, none⟩ = some v1 ∧ X.drew.cell? ⟨R + 1, 1, none⟩ = some v2 ∧ X.drew.cell? ⟨R + 1, 2, none⟩ = some v3 := by
  obtain ⟨⟨h1, h2, h3⟩, h4⟩ := st_fin ho hm kr km hB hb hR hX
  exact ⟨⟨h1, h2, h3.drew⟩, h4⟩
theorem wrm_f (n1 n2 n3 : Nat) (x1 x2 x3 : List Int) (p s v : Int) (h : (wrm n1 n2 n3 x1 x2 x3 p s v).2.2.2 ≠ 0) : (wrm n1 n2 n3 x1 x2 x3 p s v).1 = x1 ∧ (wrm n1 n2 n3 x1 x2 x3 p s v).2.1 = x2 ∧ (wrm n1 n2 n3 x1 x2 x3 p s v).2.2.1 = x3 := by
  by_cases hw : wff n1 n2 n3 p s = 0
  · exfalso
    obtain ⟨hm, hs, ha, ⟨rfl, hn⟩ | ⟨hp, hi, hj⟩⟩ := wff_zero hw
    · rw [wrm, if_pos ⟨hm, hs⟩, if_neg (by rw [ha]; simp), if_pos rfl, if_neg (by omega)] at h
      exact h rfl
    · rw [wrm, if_pos ⟨hm, hs⟩, if_neg (by rw [ha]; simp), if_neg hp, if_neg (by rw [hi]; simp), if_pos hj] at h
      exact h rfl
  · rw [wrm_fault _ _ _ _ _ _ _ _ _ hw]
    exact ⟨rfl, rfl, rfl⟩
/-- what l3Memory does at a load or store, beside what the operation does -/
def Mem6 (op d a i pc : Int) (rg : List Int) (n1 n2 n3 : Nat) (x1 x2 x3 : List Int) (rs : List Rg) (rn : Nat) (F : Int) (RG y1 y2 y3 : List Int) : Prop :=
  (∀ (rb cp g1 g2 g3 c1 c2 c3 : Nat) (ra : Option Addr) (rc : Nat) (base : Nat) (w : World), OI w base (.slice (some ⟨rb, 0, none⟩) 8 cp) rg → Own3 w base (.slice (some ⟨g1, 0, none⟩) n1 c1) (.slice (some ⟨g2, 0, none⟩) n2 c2) (.slice (some ⟨g3, 0, none⟩) n3 c3) x1 x2 x3 → RS w ra rn rc rs → base ≤ w.heap.size →
    Calls Tryz.prog 24 #[.agg #[.int .i64 pc, .slice (some ⟨rb, 0, none⟩) 8 cp], .agg #[.slice (some ⟨g1, 0, none⟩) n1 c1, .slice (some ⟨g2, 0, none⟩) n2 c2, .slice (some ⟨g3, 0, none⟩) n3 c3], .slice ra rn rc, .agg #[.int .i64 op, .int .i64 d, .int .i64 a, .int .i64 i]] w (MmPost w base pc (.slice (some ⟨rb, 0, none⟩) 8 cp) F RG y1 y2 y3)) ∧
  (F = 0 → opr op d a i pc rg n1 n2 n3 x1 x2 x3 rs rn = ⟨0, 0, (pc + 4) % 4294967296, RG, y1, y2, y3⟩) ∧ (F ≠ 0 → opr op d a i pc rg n1 n2 n3 x1 x2 x3 rs rn = ⟨5, F, pc, rg, x1, x2, x3⟩)
theorem mem6 (op d a i pc : Int) (rg : List Int) (n1 n2 n3 : Nat) (x1 x2 x3 : List Int) (rs : List Rg) (rn : Nat) (h14 : 14 ≤ op) (h19 : op ≤ 19) (hw : ∀ z ∈ rg, 0 ≤ z ∧ z ≤ 4294967295) (hn : n1 + n2 + n3 ≤ 1048576) (d0 : 0 ≤ d) (d1 : d < 8) (a0 : 0 ≤ a) (a7 : a < 8) (i0 : 0 ≤ i) (i1 : i ≤ 65535) :
    ∃ F RG y1 y2 y3, Mem6 op d a i pc rg n1 n2 n3 x1 x2 x3 rs rn F RG y1 y2 y3 := by
  rcases (show op = 14 ∨ op = 15 ∨ op = 16 ∨ op = 17 ∨ op = 18 ∨ op = 19 by omega) with rfl | rfl | rfl | rfl | rfl | rfl
  · refine ⟨_, _, _, _, _, fun rb cp g1 g2 g3 c1 c2 c3 ra rc base w ho hm hrs hb => l3Memory_14 d a i pc rb cp rg g1 g2 g3 n1 c1 n2 c2 n3 c3 x1 x2 x3 ra rn rc rs base w ho hm hrs hw hn hb d0 d1 a0 a7 i0 i1, fun h => ?_, fun h => ?_⟩
    · have e : opr 14 d a i pc rg n1 n2 n3 x1 x2 x3 rs rn = ldo pc rg n1 n2 n3 x1 x2 x3 rs rn d a i 1 := rfl
      rw [e, ldo]
      unfold lf at *
      by_cases ha : alw rs rn (atOf rg a i) 1 1 = true
      · rw [if_pos ha] at h
        simp only [ha, h, reduceIte]
      · rw [if_neg ha] at h
        omega
    · have e : opr 14 d a i pc rg n1 n2 n3 x1 x2 x3 rs rn = ldo pc rg n1 n2 n3 x1 x2 x3 rs rn d a i 1 := rfl
      rw [e, ldo]
      unfold lf at *
      by_cases ha : alw rs rn (atOf rg a i) 1 1 = true
      · rw [if_pos ha] at h
        simp only [ha, h, reduceIte]
      · simp [ha]
  · refine ⟨_, _, _, _, _, fun rb cp g1 g2 g3 c1 c2 c3 ra rc base w ho hm hrs hb => l3Memory_15 d a i pc rb cp rg g1 g2 g3 n1 c1 n2 c2 n3 c3 x1 x2 x3 ra rn rc rs base w ho hm hrs hw hn hb d0 d1 a0 a7 i0 i1, fun h => ?_, fun h => ?_⟩
    · have e : opr 15 d a i pc rg n1 n2 n3 x1 x2 x3 rs rn = ldo pc rg n1 n2 n3 x1 x2 x3 rs rn d a i 2 := rfl
      rw [e, ldo]
      unfold lf at *
      by_cases ha : alw rs rn (atOf rg a i) 2 1 = true
      · rw [if_pos ha] at h
        simp only [ha, h, reduceIte]
      · rw [if_neg ha] at h
        omega
    · have e : opr 15 d a i pc rg n1 n2 n3 x1 x2 x3 rs rn = ldo pc rg n1 n2 n3 x1 x2 x3 rs rn d a i 2 := rfl
      rw [e, ldo]
      unfold lf at *
      by_cases ha : alw rs rn (atOf rg a i) 2 1 = true
      · rw [if_pos ha] at h
        simp only [ha, h, reduceIte]
      · simp [ha]
  · refine ⟨_, _, _, _, _, fun rb cp g1 g2 g3 c1 c2 c3 ra rc base w ho hm hrs hb => l3Memory_16 d a i pc rb cp rg g1 g2 g3 n1 c1 n2 c2 n3 c3 x1 x2 x3 ra rn rc rs base w ho hm hrs hw hn hb d0 d1 a0 a7 i0 i1, fun h => ?_, fun h => ?_⟩
    · have e : opr 16 d a i pc rg n1 n2 n3 x1 x2 x3 rs rn = ldo pc rg n1 n2 n3 x1 x2 x3 rs rn d a i 4 := rfl
      rw [e, ldo]
      unfold lf at *
      by_cases ha : alw rs rn (atOf rg a i) 4 1 = true
      · rw [if_pos ha] at h
        simp only [ha, h, reduceIte]
      · rw [if_neg ha] at h
        omega
    · have e : opr 16 d a i pc rg n1 n2 n3 x1 x2 x3 rs rn = ldo pc rg n1 n2 n3 x1 x2 x3 rs rn d a i 4 := rfl
      rw [e, ldo]
      unfold lf at *
      by_cases ha : alw rs rn (atOf rg a i) 4 1 = true
      · rw [if_pos ha] at h
        simp only [ha, h, reduceIte]
      · simp [ha]
  · refine ⟨_, _, _, _, _, fun rb cp g1 g2 g3 c1 c2 c3 ra rc base w ho hm hrs hb => l3Memory_17 d a i pc rb cp rg g1 g2 g3 n1 c1 n2 c2 n3 c3 x1 x2 x3 ra rn rc rs base w ho hm hrs hw hn hb d0 d1 a0 a7 i0 i1, fun h => ?_, fun h => ?_⟩
    · have e : opr 17 d a i pc rg n1 n2 n3 x1 x2 x3 rs rn = sto pc rg n1 n2 n3 x1 x2 x3 rs rn d a i 1 := rfl
      rw [e, sto]
      unfold swr at *
      by_cases ha : alw rs rn (atOf rg a i) 1 2 = true
      · rw [if_pos ha] at h
        rw [if_pos ha, if_pos ha, if_pos h]
      · rw [if_neg ha] at h
        dsimp only at h
        omega
    · have e : opr 17 d a i pc rg n1 n2 n3 x1 x2 x3 rs rn = sto pc rg n1 n2 n3 x1 x2 x3 rs rn d a i 1 := rfl
      rw [e, sto]
      unfold swr at *
      by_cases ha : alw rs rn (atOf rg a i) 1 2 = true
      · rw [if_pos ha] at h
        obtain ⟨e1, e2, e3⟩ := wrm_f _ _ _ _ _ _ _ _ _ h
        rw [if_pos ha, if_pos ha, if_neg h, e1, e2, e3]
      · rw [if_neg ha, if_neg ha]
  · refine ⟨_, _, _, _, _, fun rb cp g1 g2 g3 c1 c2 c3 ra rc base w ho hm hrs hb => l3Memory_18 d a i pc rb cp rg g1 g2 g3 n1 c1 n2 c2 n3 c3 x1 x2 x3 ra rn rc rs base w ho hm hrs hw hn hb d0 d1 a0 a7 i0 i1, fun h => ?_, fun h => ?_⟩
    · have e : opr 18 d a i pc rg n1 n2 n3 x1 x2 x3 rs rn = sto pc rg n1 n2 n3 x1 x2 x3 rs rn d a i 2 := rfl
      rw [e, sto]
      unfold swr at *
      by_cases ha : alw rs rn (atOf rg a i) 2 2 = true
      · rw [if_pos ha] at h
        rw [if_pos ha, if_pos ha, if_pos h]
      · rw [if_neg ha] at h
        dsimp only at h
        omega
    · have e : opr 18 d a i pc rg n1 n2 n3 x1 x2 x3 rs rn = sto pc rg n1 n2 n3 x1 x2 x3 rs rn d a i 2 := rfl
      rw [e, sto]
      unfold swr at *
      by_cases ha : alw rs rn (atOf rg a i) 2 2 = true
      · rw [if_pos ha] at h
        obtain ⟨e1, e2, e3⟩ := wrm_f _ _ _ _ _ _ _ _ _ h
        rw [if_pos ha, if_pos ha, if_neg h, e1, e2, e3]
      · rw [if_neg ha, if_neg ha]
  · refine ⟨_, _, _, _, _, fun rb cp g1 g2 g3 c1 c2 c3 ra rc base w ho hm hrs hb => l3Memory_19 d a i pc rb cp rg g1 g2 g3 n1 c1 n2 c2 n3 c3 x1 x2 x3 ra rn rc rs base w ho hm hrs hw hn hb d0 d1 a0 a7 i0 i1, fun h => ?_, fun h => ?_⟩
    · have e : opr 19 d a i pc rg n1 n2 n3 x1 x2 x3 rs rn = sto pc rg n1 n2 n3 x1 x2 x3 rs rn d a i 4 := rfl
      rw [e, sto]
      unfold swr at *
      by_cases ha : alw rs rn (atOf rg a i) 4 2 = true
      · rw [if_pos ha] at h
        rw [if_pos ha, if_pos ha, if_pos h]
      · rw [if_neg ha] at h
        dsimp only at h
        omega
    · have e : opr 19 d a i pc rg n1 n2 n3 x1 x2 x3 rs rn = sto pc rg n1 n2 n3 x1 x2 x3 rs rn d a i 4 := rfl
      rw [e, sto]
      unfold swr at *
      by_cases ha : alw rs rn (atOf rg a i) 4 2 = true
      · rw [if_pos ha] at h
        obtain ⟨e1, e2, e3⟩ := wrm_f _ _ _ _ _ _ _ _ _ h
        rw [if_pos ha, if_pos ha, if_neg h, e1, e2, e3]
      · rw [if_neg ha, if_neg ha]
end Go.Proofs.YtaillnegkfagfacGreat

namespace Go.Proofs.YtaillnegkfagfacGreat
open Go.RowKit
set_option linter.unusedVariables false

def cells6 (g : Rg) : List Value := [.int .i64 g.1, .int .i64 g.2.1, .int .i64 g.2.2.1, .bool g.2.2.2.1, .bool g.2.2.2.2.1, .bool g.2.2.2.2.2]
def flat (rs : List Rg) : List Value := rs.flatMap cells6
theorem flat_len : ∀ rs : List Rg, (flat rs).length = rs.length * 6
  | [] => rfl
  | g :: rs => by simp only [flat, List.flatMap_cons, List.length_append]; have := flat_len rs; simp only [flat] at this; rw [this]; simp [cells6]; omega
theorem flat_get : ∀ (rs : List Rg) (i j : Nat), i < rs.length → j < 6 → (flat rs)[i * 6 + j]? = (cells6 (rs.getD i z6))[j]?
  | [], i, j, h, _ => absurd h (by simp)
  | g :: rs, 0, j, _, hj => by
    simp only [flat, List.flatMap_cons]
    rw [List.getElem?_append_left (by simp [cells6]; omega)]
    simp
  | g :: rs, i + 1, j, h, hj => by
    have hh := flat_get rs i j (by simpa using h) hj
    simp only [flat, List.flatMap_cons] at hh ⊢
    rw [List.getElem?_append_right (by simp [cells6]; omega)]
    have e : (i + 1) * 6 + j - (cells6 g).length = i * 6 + j := by simp [cells6]; omega
    rw [e, hh]
    simp
/-- A SLICE OF REGIONS OF THE CALL's OWN, from block 'base' on. -/
def OR (w : World) (base : Nat) (v : Value) (rs : List Rg) : Prop := w.ownsRow base 43 6 v rs.length (flat rs) ∧ ∀ g ∈ rs, wfi g.1 ∧ wfi g.2.1 ∧ wfi g.2.2.1
theorem or_rs {w : World} {base n cap : Nat} {a : Option Addr} {rs : List Rg} (h : OR w base (.slice a n cap) rs) : RS w a n cap rs := by
  obtain ⟨hl, ⟨h0, h0'⟩ | ⟨g, cap', cur, hv, hg, hh, h1, h2, h3, h4⟩⟩ := h.1
  · simp at h0
    obtain ⟨rfl, rfl, rfl⟩ := h0
    exact ⟨h0', Nat.zero_le _, h.2, fun hn => absurd rfl hn, Nat.le_refl _⟩
  · simp at hv
    obtain ⟨rfl, rfl, rfl⟩ := hv
    refine ⟨rfl, by omega, h.2, fun hn => ⟨g, 0, rfl, fun i hi => ?_⟩, h1⟩
    have hc : ∀ j, j < 6 → w.cell? ⟨g, 0 + i * 6 + j, none⟩ = (cells6 (rs.getD i z6))[j]? := by
      intro j hj
      rw [Blk.cell (w := w) hh]
      have : cur.toList[0 + i * 6 + j]? = (flat rs)[i * 6 + j]? := by
        rw [← h4, List.getElem?_take, if_pos (by omega), Nat.zero_add]
      rw [Array.getElem?_toList] at this
      rw [this, flat_get rs i j hi hj]
    exact ⟨hc 0 (by omega), hc 1 (by omega), hc 2 (by omega), hc 3 (by omega), hc 4 (by omega), hc 5 (by omega)⟩
theorem turn_or {S : Nat → Prop} {base : Nat} {w w' : World} {v : Value} {rs : List Rg} (t : Turn S w w') (h : OR w base v rs) (hk : ∀ k, base ≤ k → ¬ S k) : OR w' base v rs := by
  refine ⟨?_, h.2⟩
  obtain ⟨hl, h0 | ⟨g', cap, cur, hv, hg, hh, h1, h2, h3, h4⟩⟩ := h.1
  · exact ⟨hl, .inl h0⟩
  · exact ⟨hl, .inr ⟨g', cap, cur, hv, hg, turn_blk t hh (hk g' hg), h1, h2, h3, h4⟩⟩
theorem or_empty (w : World) (base : Nat) (hb : base ≤ w.heap.size) : OR (w.alloc (.cells #[] 43)) base (.slice (some ⟨w.heap.size, 0, none⟩) 0 0) [] :=
  ⟨⟨rfl, .inr ⟨w.heap.size, 0, #[], rfl, hb, heap_alloc_new w _, Nat.le_refl _, Nat.zero_le _, rfl, rfl⟩⟩, fun _ h => by cases h⟩
theorem or_shape {w : World} {base n : Nat} {t : TypeId} {sz : Nat} {v : Value} {xs : List Value} (h : w.ownsRow base t sz v n xs) : ∃ a cap, v = .slice a n cap := by
  obtain ⟨_, ⟨rfl, rfl⟩ | ⟨g, cap, cur, rfl, _⟩⟩ := h
  · exact ⟨_, _, rfl⟩
  · exact ⟨_, _, rfl⟩
theorem news6 (w : World) (g : Rg) : ∀ j u, (cells6 g)[j]? = some u → (w.alloc (.cells #[.int .i64 g.1, .int .i64 g.2.1, .int .i64 g.2.2.1, .bool g.2.2.2.1, .bool g.2.2.2.2.1, .bool g.2.2.2.2.2] 43)).cell? ((⟨w.heap.size, 0, none⟩ : Addr).add j) = some u := by
  intro j u hj
  rw [addr_add, Nat.zero_add, Blk.cell (Blk.new w _ _), ← hj]
  match j with
  | 0 => rfl
  | 1 => rfl
  | 2 => rfl
  | 3 => rfl
  | 4 => rfl
  | 5 => rfl
  | j + 6 => rfl
theorem one6 (g : Rg) : ∀ u ∈ cells6 g, u.oneCell' = true := by
  intro u hu
  simp [cells6] at hu
  rcases hu with rfl | rfl | rfl | rfl | rfl | rfl <;> rfl
/-- a region is appended -/
theorem or_more {W W' : World} {base : Nat} {v v' : Value} {rs : List Rg} {g : Rg} (hr : ∀ g ∈ rs, wfi g.1 ∧ wfi g.2.1 ∧ wfi g.2.2.1) (hw : wfi g.1 ∧ wfi g.2.1 ∧ wfi g.2.2.1) (h : W'.ownsRow base 43 6 v' (rs.length + 1) (flat rs ++ cells6 g)) : OR W' base v' (rs ++ [g]) := by
  refine ⟨by simpa [flat] using h, fun y hy => ?_⟩
  rcases List.mem_append.1 hy with hy | hy
  · exact hr y hy
  · simp at hy; subst hy; exact hw
theorem grown_turn {W W' : World} {row : Option Nat} (h : W.grownBy W' row) : Turn (fun j => row = some j) W W' := ⟨h.os, h.tape, h.output, h.size, fun k hk hn => h.block k hk (fun e => hn e.symm)⟩
theorem turn_far {S S' : Nat → Prop} {w W W' : World} (h : Turn S w W) (t : Turn S' W W') (hs : ∀ j, S' j → w.heap.size ≤ j) : Turn S w W' :=
  ⟨t.os.trans h.os, t.tape.trans h.tape, t.output.trans h.output, Nat.le_trans h.size t.size, fun k hk hn => (t.block k (Nat.lt_of_lt_of_le hk h.size) (fun e => by have := hs k e; omega)).trans (h.block k hk hn)⟩
end Go.Proofs.YtaillnegkfagfacGreat


namespace Go.Proofs.YtaillnegkfagfacGreat
open Go.RowKit
set_option linter.unusedVariables false
set_option linter.unusedSimpArgs false
set_option maxRecDepth 100000

theorem encV_rng (op d a i : Int) : 0 ≤ encV op d a i ∧ encV op d a i ≤ 4294967295 := by
  unfold encV
  cases h : okI op d a i
  · simp
  · obtain ⟨h1, h2, h3, h4, h5, h6, h7, h8⟩ := okI_bounds h
    simp only [if_true, enc]
    omega
/-- the word of an instruction, as a function of the code -/
def RndFn (zs : List Int) (k : Nat) (v : Int) (k' : Nat) : Prop := ∀ (r : Nat) (a : Option Addr) (n c : Nat) (w : World) (h : Rdr w r a n c zs k) (hcode : n ≠ 0 → ∀ b off, a = some ⟨b, off, none⟩ → b < w.heap.size), Calls Tryz.prog 11 #[.pointer (some ⟨r, 0, none⟩)] w fun e w' => e = .returned (.int .i64 v) ∧ Rdr w' r a n c zs k' ∧ Turn (fun j => j = r) w w'
set_option maxHeartbeats 1000000 in
theorem l3Random_fn (zs : List Int) (k : Nat) (hz : ∀ j, 0 ≤ zs.getD j 0 ∧ zs.getD j 0 ≤ 255) : ∃ (v : Int) (k' : Nat), (0 ≤ v ∧ v ≤ 4294967295) ∧ RndFn zs k v k' := by
  obtain ⟨o, d, x, i, k', hb, hc⟩ := l3Ins_fn zs k hz
  refine ⟨encV o d x i, k', encV_rng o d x i, fun r a n c w h hcode => ?_⟩
  have HC := hide (hc r a n c w h hcode)
  clear hc hz
  go_enter Tryz.func11, Tryz.ntmps11
  go_wp2_with fail
  refine HC.out.mono ?_
  rintro e w1 ⟨rfl, hr1, t1⟩
  go_wp2_with fail
  refine (sEncode_any o d x i _).mono ?_
  rintro e w2 ⟨rfl, hb2⟩
  go_wp2
  go_ret
  exact ⟨rfl, rdr_below hr1 hb2, t1.trans (turn_below hb2)⟩

set_option maxHeartbeats 1000000 in
theorem l1Put_big (g n cap k : Nat) (s v : Int) (w : World) (h : Room w g n) (hn : n ≤ 1048576) (hs1 : 1 ≤ s) (hs : s ≤ 4) (hk : (k : Int) + s ≤ n) (hv0 : 0 ≤ v) (hv1 : v ≤ 4294967295) :
    Calls Tryz.prog 13 #[.slice (some ⟨g, 0, none⟩) n cap, .int .i64 k, .int .i64 s, .int .i64 v] w fun e w' => e = .returned (.tuple #[]) ∧ w' = putW w g k v s.toNat := by
  go_enter Tryz.func13, Tryz.ntmps13
  go_wp2
  go_loopw [3, 8] (fun x i wr => ∃ j : Nat, (j : Int) ≤ s ∧ i = .int .i64 j ∧ x = .int .i64 (v / (256:Int)^j) ∧ wr = putW w g k v j) (fun _ i _ => s.toNat - (intOf i).toNat)
  case atStart => exact ⟨0, by omega, rfl, by simp, rfl⟩
  case round =>
    obtain ⟨j, hj, rfl, rfl, rfl⟩ := hrel
    by_cases hlt : (j : Int) < s
    · have hR := h.put k v j
      obtain ⟨u, hu⟩ := hR.cell (k + j) (by omega)
      have hf := hR.frozen (k + j)
      have hp : 0 < (256:Int)^j := Int.pow_pos (by omega)
      have hq0 : 0 ≤ v / (256:Int)^j := Int.ediv_nonneg hv0 (by omega)
      have hq1 : v / (256:Int)^j ≤ v := Int.ediv_le_self _ hv0
      have HS := hide (bt_succ v j)
      have hW : putW w g k v (j + 1) = (putW w g k v j).setCell ⟨g, k + j, none⟩ (.int .u8 (v / (256:Int)^j % 256)) := rfl
      have HW := hide hW
      clear hW hR hp
      generalize putW w g k v j = W at *
      generalize v / (256:Int)^j = q at *
      go_wp2
      go_roundw
      case rel => exact ⟨j + 1, by omega, by go_num, by rw [HS.out], HW.out.symm⟩
      case measure => simp [intOf]; omega
    · have hjs : s.toNat = j := by omega
      have HJ := hide hjs
      clear hjs
      generalize v / (256:Int)^j = q at *
      go_wp2
      go_end0
      exact ⟨rfl, by rw [HJ.out]⟩

theorem only_turn {g : Nat} {w w' : World} (h : Only g w w') : Turn (fun j => j = g) w w' := ⟨h.2.2.1, h.2.2.2.1, h.2.2.2.2, by rw [h.1]; exact Nat.le_refl _, fun k hk hn => h.2.1 k hn⟩
/-- a row of regions that is built at once -/
theorem or_lit (w : World) (rs : List Rg) (cs : Array Value) (hc : cs.toList = flat rs) (hw : ∀ g ∈ rs, wfi g.1 ∧ wfi g.2.1 ∧ wfi g.2.2.1) (hm : rs.length ≤ 20) : OR (w.alloc (.cells cs 43)) w.heap.size (.slice (some ⟨w.heap.size, 0, none⟩) rs.length rs.length) rs := by
  have hl : cs.size = rs.length * 6 := by rw [← flat_len, ← hc]; simp
  exact ⟨⟨by rw [flat_len], .inr ⟨w.heap.size, rs.length, cs, rfl, Nat.le_refl _, heap_alloc_new w _, Nat.le_refl _, by unfold maxLen; omega, hl, by rw [hc, List.take_of_length_le (by rw [flat_len]; exact Nat.le_refl _)]⟩⟩, hw⟩

theorem or_addr {w : World} {base n cap : Nat} {a : Option Addr} {rs : List Rg} (h : OR w base (.slice a n cap) rs) (hn : rs.length ≠ 0) : ∃ g, a = some ⟨g, 0, none⟩ := by
  obtain ⟨hl, ⟨h0', h1⟩ | ⟨g, cap', cur, hv, _⟩⟩ := h.1
  · exact absurd h1 hn
  · injection hv with hv; exact ⟨g, hv⟩

/-- THE STATE OF DrawStep behind its memory. -/
structure Dw (w W : World) (C M g d b1 d1 b2 d2 b3 d3 : Nat) (pc : Int) (xs F R O : List Int) : Prop where
  below : Below w.heap.size w W
  kc : Blk W w.heap.size #[.int .i64 0, .slice none 0 0] 25
  km : Blk W (w.heap.size + 1) #[.slice none 0 0, .slice none 0 0, .slice none 0 0] 27
  bc : Blk W C #[.int .i64 pc, .slice (some ⟨g, 0, none⟩) xs.length d] 25
  bm : Blk W M #[.slice (some ⟨b1, 0, none⟩) F.length d1, .slice (some ⟨b2, 0, none⟩) R.length d2, .slice (some ⟨b3, 0, none⟩) O.length d3] 27
  i : IS W (some ⟨g, 0, none⟩) xs.length d xs
  f : BS W (some ⟨b1, 0, none⟩) F.length d1 F
  r : BS W (some ⟨b2, 0, none⟩) R.length d2 R
  o : BS W (some ⟨b3, 0, none⟩) O.length d3 O
  hg : w.heap.size + 1 < g
  h1 : w.heap.size + 1 < b1
  h2 : w.heap.size + 1 < b2
  h3 : w.heap.size + 1 < b3
  hC : w.heap.size + 1 < C
  hM : w.heap.size + 1 < M
theorem Dw.step {w W W' : World} {C M g d b1 d1 b2 d2 b3 d3 : Nat} {pc : Int} {xs F R O : List Int} (h : Dw w W C M g d b1 d1 b2 d2 b3 d3 pc xs F R O) (b : Below W.heap.size W W') : Dw w W' C M g d b1 d1 b2 d2 b3 d3 pc xs F R O :=
  ⟨h.below.trans (b.mono h.below.size), h.kc.below b, h.km.below b, h.bc.below b, h.bm.below b, h.i.below b, h.f.below b, h.r.below b, h.o.below b, h.hg, h.h1, h.h2, h.h3, h.hC, h.hM⟩
/-- something in a block of its own is turned -/
theorem Dw.turn {S : Nat → Prop} {w W W' : World} {C M g d b1 d1 b2 d2 b3 d3 : Nat} {pc : Int} {xs F R O : List Int} (h : Dw w W C M g d b1 d1 b2 d2 b3 d3 pc xs F R O) (t : Turn S W W') (hs : ∀ k, S k → w.heap.size + 1 < k ∧ k ≠ C ∧ k ≠ M ∧ k ≠ g ∧ k ≠ b1 ∧ k ≠ b2 ∧ k ≠ b3) : Dw w W' C M g d b1 d1 b2 d2 b3 d3 pc xs F R O := by
  have ne : ∀ {x : Nat}, (∀ k, S k → k ≠ x) → ∀ k, S k → ∀ b off, (some ⟨x, 0, none⟩ : Option Addr) = some ⟨b, off, none⟩ → b ≠ k := fun hx k hk b off e => by injection e with e; injection e with e; subst e; exact (hx k hk).symm
  exact ⟨below_turn h.below t (fun k hk => by have := hs k hk; omega) h.below.size, turn_blk t h.kc (fun e => by have := hs _ e; omega), turn_blk t h.km (fun e => by have := hs _ e; omega), turn_blk t h.bc (fun e => (hs _ e).2.1 rfl), turn_blk t h.bm (fun e => (hs _ e).2.2.1 rfl),
    turn_is t h.i (ne fun k hk => (hs k hk).2.2.2.1), turn_bs t h.f (ne fun k hk => (hs k hk).2.2.2.2.1), turn_bs t h.r (ne fun k hk => (hs k hk).2.2.2.2.2.1), turn_bs t h.o (ne fun k hk => (hs k hk).2.2.2.2.2.2), h.hg, h.h1, h.h2, h.h3, h.hC, h.hM⟩

/-- WHAT DrawStep GIVES. -/
def DsPost (w : World) (pc : Int) (xs F R O : List Int) (rs : List Rg) (e : Ending) (w' : World) : Prop :=
  ∃ g d b1 d1 b2 d2 b3 d3 ra rc, e = .returned (.tuple #[.agg #[.int .i64 pc, .slice (some ⟨g, 0, none⟩) xs.length d], .agg #[.slice (some ⟨b1, 0, none⟩) F.length d1, .slice (some ⟨b2, 0, none⟩) R.length d2, .slice (some ⟨b3, 0, none⟩) O.length d3], .slice (some ⟨ra, 0, none⟩) rs.length rc]) ∧
    IS w' (some ⟨g, 0, none⟩) xs.length d xs ∧ BS w' (some ⟨b1, 0, none⟩) F.length d1 F ∧ BS w' (some ⟨b2, 0, none⟩) R.length d2 R ∧ BS w' (some ⟨b3, 0, none⟩) O.length d3 O ∧ RS w' (some ⟨ra, 0, none⟩) rs.length rc rs ∧ Below w.heap.size w w'
theorem Dw.fin {w W X : World} {C M g d b1 d1 b2 d2 b3 d3 q cp : Nat} {pc : Int} {xs F R O : List Int} {rs : List Rg} (h : Dw w W C M g d b1 d1 b2 d2 b3 d3 pc xs F R O) (hr : RS W (some ⟨q, 0, none⟩) rs.length cp rs) (hq : w.heap.size + 1 < q)
    (hX : X = setM (setC W w.heap.size (.int .i64 pc) (.slice (some ⟨g, 0, none⟩) xs.length d)) (w.heap.size + 1) (.slice (some ⟨b1, 0, none⟩) F.length d1) (.slice (some ⟨b2, 0, none⟩) R.length d2) (.slice (some ⟨b3, 0, none⟩) O.length d3) ∨ X = setC (setM W (w.heap.size + 1) (.slice (some ⟨b1, 0, none⟩) F.length d1) (.slice (some ⟨b2, 0, none⟩) R.length d2) (.slice (some ⟨b3, 0, none⟩) O.length d3)) w.heap.size (.int .i64 pc) (.slice (some ⟨g, 0, none⟩) xs.length d)) :
    (IS X.drew (some ⟨g, 0, none⟩) xs.length d xs ∧ BS X.drew (some ⟨b1, 0, none⟩) F.length d1 F ∧ BS X.drew (some ⟨b2, 0, none⟩) R.length d2 R ∧ BS X.drew (some ⟨b3, 0, none⟩) O.length d3 O ∧ RS X.drew (some ⟨q, 0, none⟩) rs.length cp rs ∧ Below w.heap.size w X.drew) ∧
      X.drew.cell? ⟨w.heap.size, 0, none⟩ = some (.int .i64 pc) ∧ X.drew.cell? ⟨w.heap.size, 1, none⟩ = some (.slice (some ⟨g, 0, none⟩) xs.length d) ∧ X.drew.cell? ⟨w.heap.size + 1, 0, none⟩ = some (.slice (some ⟨b1, 0, none⟩) F.length d1) ∧ X.drew.cell? ⟨w.heap.size + 1, 1, none⟩ = some (.slice (some ⟨b2, 0, none⟩) R.length d2) ∧ X.drew.cell? ⟨w.heap.size + 1, 2, none⟩ = some (.slice (some ⟨b3, 0, none⟩) O.length d3) := by
  have kr := h.kc
  have km := h.km
  generalize (Value.slice (some ⟨b1, 0, none⟩) F.length d1) = v1 at *
  generalize (Value.slice (some ⟨b2, 0, none⟩) R.length d2) = v2 at *
  generalize (Value.slice (some ⟨b3, 0, none⟩) O.length d3) = v3 at *
  generalize hc : (Value.slice (some ⟨g, 0, none⟩) xs.length d) = c at *
  have key : Turn (fun j => j = w.heap.size ∨ j = w.heap.size + 1) W X ∧ Blk X w.heap.size #[.int .i64 pc, c] 25 ∧ Blk X (w.heap.size + 1) #[v1, v2, v3] 27 := by
    rcases hX with rfl | rfl
    · refine ⟨(((turn_setg _ _ _ _).trans (turn_setg _ _ _ _)).mono (fun k e => Or.inl e)).trans ((((turn_setg _ _ _ _).trans (turn_setg _ _ _ _)).trans (turn_setg _ _ _ _)).mono (fun k e => Or.inr e)), ?_, ?_⟩
      · have k1 := ((((kr.set 0 (.int .i64 pc)).set 1 c).other ⟨w.heap.size + 1, 0, none⟩ v1 (by dsimp only; omega)).other ⟨w.heap.size + 1, 1, none⟩ v2 (by dsimp only; omega)).other ⟨w.heap.size + 1, 2, none⟩ v3 (by dsimp only; omega)
        simpa [setC, setM] using k1
      · have k1 := ((((km.other ⟨w.heap.size, 0, none⟩ (.int .i64 pc) (by dsimp only; omega)).other ⟨w.heap.size, 1, none⟩ c (by dsimp only; omega)).set 0 v1).set 1 v2).set 2 v3
        simpa [setC, setM] using k1
    · refine ⟨((((turn_setg _ _ _ _).trans (turn_setg _ _ _ _)).trans (turn_setg _ _ _ _)).mono (fun k e => Or.inr e)).trans (((turn_setg _ _ _ _).trans (turn_setg _ _ _ _)).mono (fun k e => Or.inl e)), ?_, ?_⟩
      · have k1 := ((((kr.other ⟨w.heap.size + 1, 0, none⟩ v1 (by dsimp only; omega)).other ⟨w.heap.size + 1, 1, none⟩ v2 (by dsimp only; omega)).other ⟨w.heap.size + 1, 2, none⟩ v3 (by dsimp only; omega)).set 0 (.int .i64 pc)).set 1 c
        simpa [setC, setM] using k1
      · have k1 := ((((km.set 0 v1).set 1 v2).set 2 v3).other ⟨w.heap.size, 0, none⟩ (.int .i64 pc) (by dsimp only; omega)).other ⟨w.heap.size, 1, none⟩ c (by dsimp only; omega)
        simpa [setC, setM] using k1
  obtain ⟨T, k1, k2⟩ := key
  have ne : ∀ {x : Nat}, w.heap.size + 1 < x → ∀ k, (k = w.heap.size ∨ k = w.heap.size + 1) → ∀ b off, (some ⟨x, 0, none⟩ : Option Addr) = some ⟨b, off, none⟩ → b ≠ k := fun hx k hk b off e => by injection e with e; injection e with e; omega
  have dr : Below X.heap.size X X.drew := (Below.refl _ _).drew
  refine ⟨⟨(turn_is T h.i (ne h.hg)).below dr, (turn_bs T h.f (ne h.h1)).below dr, (turn_bs T h.r (ne h.h2)).below dr, (turn_bs T h.o (ne h.h3)).below dr, (turn_rs T hr (ne hq)).below dr, (below_turn h.below T (fun k e => by omega) h.below.size).drew⟩, ?_, ?_, ?_, ?_, ?_⟩
  · exact (k1.below dr).cell 0
  · exact (k1.below dr).cell 1
  · exact (k2.below dr).cell 0
  · exact (k2.below dr).cell 1
  · exact (k2.below dr).cell 2
end Go.Proofs.YtaillnegkfagfacGreat
