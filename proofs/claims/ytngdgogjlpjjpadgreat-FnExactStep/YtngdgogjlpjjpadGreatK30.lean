import Derived.Test.YtngdgogjlpjjpadGreatK27
import Derived.Test.YtngdgogjlpjjpadGreatK28
import Derived.Test.YtngdgogjlpjjpadGreatK29
namespace Go.Proofs.YtngdgogjlpjjpadGreat
open Go.RowKit
set_option linter.unusedVariables false
set_option linter.unusedSimpArgs false
set_option maxRecDepth 100000

theorem oi_ne {W : World} {base G : Nat} {v : Value} {zs : List Int} {cs : Array Value} {t : TypeId} (h : OI W base v zs) (hk : Blk W G cs t) (ht : t ≠ 3) : v.ownBlock ≠ some G := by
  obtain ⟨hl, ⟨h0, _⟩ | ⟨g, cap, cur, rfl, hg, hh, _⟩⟩ := h.1
  · rw [h0]; intro e; cases e
  · intro e
    have e' : some g = some G := e
    injection e' with e'
    subst e'
    unfold Blk at hk
    rw [hh] at hk
    simp at hk
    exact ht hk.2.symm
/-- WHAT Step GIVES. -/
def StPost (w : World) (r : Res) (e : Ending) (w' : World) : Prop :=
  ∃ ca nr cc a1 m1 d1 a2 m2 d2 a3 m3 d3, e = .returned (.tuple #[.agg #[.int .i64 r.pc, .slice ca nr cc], .agg #[.slice a1 m1 d1, .slice a2 m2 d2, .slice a3 m3 d3], .int .i64 r.did, .int .i64 r.num]) ∧
    OI w' w.heap.size (.slice ca nr cc) r.rg ∧ Own3 w' w.heap.size (.slice a1 m1 d1) (.slice a2 m2 d2) (.slice a3 m3 d3) r.x1 r.x2 r.x3 ∧ Below w.heap.size w w'
def setC (W : World) (R : Nat) (x y : Value) : World := (W.setCell ⟨R, 0, none⟩ x).setCell ⟨R, 1, none⟩ y
def setM (W : World) (R : Nat) (x y z : Value) : World := ((W.setCell ⟨R, 0, none⟩ x).setCell ⟨R, 1, none⟩ y).setCell ⟨R, 2, none⟩ z
theorem st_fin {w W X : World} {R base : Nat} {pc : Int} {c v1 v2 v3 u0 u1 t0 t1 t2 : Value} {zs x1 x2 x3 : List Int} (ho : OI W base c zs) (hm : Own3 W base v1 v2 v3 x1 x2 x3) (kr : Blk W R #[u0, u1] 58) (km : Blk W (R + 1) #[t0, t1, t2] 38)
    (hB : Below w.heap.size w W) (hb : w.heap.size ≤ base) (hR : w.heap.size ≤ R)
    (hX : X = setM (setC W R (.int .i64 pc) c) (R + 1) v1 v2 v3 ∨ X = setC (setM W (R + 1) v1 v2 v3) R (.int .i64 pc) c) :
    (OI X w.heap.size c zs ∧ Own3 X w.heap.size v1 v2 v3 x1 x2 x3 ∧ Below w.heap.size w X) ∧
      X.cell? ⟨R, 0, none⟩ = some (.int .i64 pc) ∧ X.cell? ⟨R, 1, none⟩ = some c ∧ X.cell? ⟨R + 1, 0, none⟩ = some v1 ∧ X.cell? ⟨R + 1, 1, none⟩ = some v2 ∧ X.cell? ⟨R + 1, 2, none⟩ = some v3 := by
  have key : Turn (fun j => j = R ∨ j = R + 1) W X ∧ Blk X R #[.int .i64 pc, c] 58 ∧ Blk X (R + 1) #[v1, v2, v3] 38 := by
    rcases hX with rfl | rfl
    · refine ⟨(((turn_setg _ _ _ _).trans (turn_setg _ _ _ _)).mono (fun k e => Or.inl e)).trans ((((turn_setg _ _ _ _).trans (turn_setg _ _ _ _)).trans (turn_setg _ _ _ _)).mono (fun k e => Or.inr e)), ?_, ?_⟩
      · have k1 := ((((kr.set 0 (.int .i64 pc)).set 1 c).other ⟨R + 1, 0, none⟩ v1 (by dsimp only; omega)).other ⟨R + 1, 1, none⟩ v2 (by dsimp only; omega)).other ⟨R + 1, 2, none⟩ v3 (by dsimp only; omega)
        simpa [setC, setM] using k1
      · have k1 := ((((km.other ⟨R, 0, none⟩ (.int .i64 pc) (by dsimp only; omega)).other ⟨R, 1, none⟩ c (by dsimp only; omega)).set 0 v1).set 1 v2).set 2 v3
        simpa [setC, setM] using k1
    · refine ⟨((((turn_setg _ _ _ _).trans (turn_setg _ _ _ _)).trans (turn_setg _ _ _ _)).mono (fun k e => Or.inr e)).trans (((turn_setg _ _ _ _).trans (turn_setg _ _ _ _)).mono (fun k e => Or.inl e)), ?_, ?_⟩
      · have k1 := ((((kr.other ⟨R + 1, 0, none⟩ v1 (by dsimp only; omega)).other ⟨R + 1, 1, none⟩ v2 (by dsimp only; omega)).other ⟨R + 1, 2, none⟩ v3 (by dsimp only; omega)).set 0 (.int .i64 pc)).set 1 c
        simpa [setC, setM] using k1
      · have k1 := ((((km.set 0 v1).set 1 v2).set 2 v3).other ⟨R, 0, none⟩ (.int .i64 pc) (by dsimp only; omega)).other ⟨R, 1, none⟩ c (by dsimp only; omega)
        simpa [setC, setM] using k1
  obtain ⟨T, k1, k2⟩ := key
  have nb : ∀ {v : Value} {ys : List Int}, OB W base v ys → ∀ k, v.ownBlock = some k → ¬ (k = R ∨ k = R + 1) := fun h k hk e => by
    rcases e with e | e
    · exact ob_ne h kr (by decide) (by rw [hk, e])
    · exact ob_ne h km (by decide) (by rw [hk, e])
  have ni : ∀ k, c.ownBlock = some k → ¬ (k = R ∨ k = R + 1) := fun k hk e => by
    rcases e with e | e
    · exact oi_ne ho kr (by decide) (by rw [hk, e])
    · exact oi_ne ho km (by decide) (by rw [hk, e])
  refine ⟨⟨(turn_oi T ho ni).mono hb, own3_mono ⟨turn_ob T hm.1 (nb hm.1), turn_ob T hm.2.1 (nb hm.2.1), turn_ob T hm.2.2.1 (nb hm.2.2.1), hm.2.2.2⟩ hb, below_turn hB T (fun k e => by rcases e with e | e <;> omega) hB.size⟩, ?_, ?_, ?_, ?_, ?_⟩
  · rw [k1.cell]; rfl
  · rw [k1.cell]; rfl
  · rw [k2.cell]; rfl
  · rw [k2.cell]; rfl
  · rw [k2.cell]; rfl
end Go.Proofs.YtngdgogjlpjjpadGreat

namespace Go.Proofs.YtngdgogjlpjjpadGreat
open Go.RowKit
set_option linter.unusedVariables false
set_option linter.unusedSimpArgs false
set_option maxRecDepth 100000

set_option maxHeartbeats 2000000 in
theorem iStep_bad (pc : Int) (cb co n cc : Nat) (zs : List Int) (b1 o1 b2 o2 b3 o3 n1 c1 n2 c2 n3 c3 : Nat) (x1 x2 x3 : List Int) (ra : Option Addr) (rn rc : Nat) (w : World)
    (hc : IS w (some ⟨cb, co, none⟩) n cc zs) (h1 : BS w (some ⟨b1, o1, none⟩) n1 c1 x1) (h2 : BS w (some ⟨b2, o2, none⟩) n2 c2 x2) (h3 : BS w (some ⟨b3, o3, none⟩) n3 c3 x3) (hcn : n ≤ 1048576) (hn : n1 + n2 + n3 ≤ 1048576) (hbad : (cok pc n zs && mok n1 n2 n3) = false) :
    Calls Tryz.prog 24 #[.agg #[.int .i64 pc, .slice (some ⟨cb, co, none⟩) n cc], .agg #[.slice (some ⟨b1, o1, none⟩) n1 c1, .slice (some ⟨b2, o2, none⟩) n2 c2, .slice (some ⟨b3, o3, none⟩) n3 c3], .slice ra rn rc] w (StPost w ⟨5, 2, pc, zs, x1, x2, x3⟩) := by
  obtain ⟨W, hW⟩ : ∃ W, W = (((w.alloc (.cells #[.int .i64 pc, .slice (some ⟨cb, co, none⟩) n cc] 58)).alloc (.cells #[.slice (some ⟨b1, o1, none⟩) n1 c1, .slice (some ⟨b2, o2, none⟩) n2 c2, .slice (some ⟨b3, o3, none⟩) n3 c3] 38)).alloc (.cells #[.int .i64 0, .slice none 0 0] 58)).alloc (.cells #[.slice none 0 0, .slice none 0 0, .slice none 0 0] 38) := ⟨_, rfl⟩
  have hB0 : Below w.heap.size w W := by rw [hW]; exact ((((Below.refl _ _).alloc (Nat.le_refl _) _).alloc (by simp) _).alloc (by simp; omega) _).alloc (by simp; omega) _
  have k0 : Blk W w.heap.size #[.int .i64 pc, .slice (some ⟨cb, co, none⟩) n cc] 58 := by rw [hW]; exact (((Blk.new w _ _).alloc _).alloc _).alloc _
  have k1 : Blk W (w.heap.size + 1) #[.slice (some ⟨b1, o1, none⟩) n1 c1, .slice (some ⟨b2, o2, none⟩) n2 c2, .slice (some ⟨b3, o3, none⟩) n3 c3] 38 := by
    rw [hW]
    have := ((Blk.new (w.alloc (.cells #[.int .i64 pc, .slice (some ⟨cb, co, none⟩) n cc] 58)) #[.slice (some ⟨b1, o1, none⟩) n1 c1, .slice (some ⟨b2, o2, none⟩) n2 c2, .slice (some ⟨b3, o3, none⟩) n3 c3] 38).alloc (.cells #[.int .i64 0, .slice none 0 0] 58)).alloc (.cells #[.slice none 0 0, .slice none 0 0, .slice none 0 0] 38)
    simpa only [World.size_alloc] using this
  have k2 : Blk W (w.heap.size + 1 + 1) #[.int .i64 0, .slice none 0 0] 58 := by
    rw [hW]
    have := (Blk.new ((w.alloc (.cells #[.int .i64 pc, .slice (some ⟨cb, co, none⟩) n cc] 58)).alloc (.cells #[.slice (some ⟨b1, o1, none⟩) n1 c1, .slice (some ⟨b2, o2, none⟩) n2 c2, .slice (some ⟨b3, o3, none⟩) n3 c3] 38)) #[.int .i64 0, .slice none 0 0] 58).alloc (.cells #[.slice none 0 0, .slice none 0 0, .slice none 0 0] 38)
    simpa only [World.size_alloc] using this
  have k3 : Blk W (w.heap.size + 1 + 1 + 1) #[.slice none 0 0, .slice none 0 0, .slice none 0 0] 38 := by
    rw [hW]
    have := Blk.new (((w.alloc (.cells #[.int .i64 pc, .slice (some ⟨cb, co, none⟩) n cc] 58)).alloc (.cells #[.slice (some ⟨b1, o1, none⟩) n1 c1, .slice (some ⟨b2, o2, none⟩) n2 c2, .slice (some ⟨b3, o3, none⟩) n3 c3] 38)).alloc (.cells #[.int .i64 0, .slice none 0 0] 58)) #[.slice none 0 0, .slice none 0 0, .slice none 0 0] 38
    simpa only [World.size_alloc] using this
  have HC := hide (fun w h => coreOk_any pc (some ⟨cb, co, none⟩) n cc zs w h)
  have HM := hide (fun w => iMemOk_any (some ⟨b1, o1, none⟩) (some ⟨b2, o2, none⟩) (some ⟨b3, o3, none⟩) n1 c1 n2 c2 n3 c3 w)
  have HCC := hide (fun w h => copyCore_any pc cb co n cc zs w h hcn)
  have HCM := hide (fun w h1 h2 h3 => copyMem_any b1 o1 b2 o2 b3 o3 n1 c1 n2 c2 n3 c3 x1 x2 x3 w h1 h2 h3 hn)
  have hc0 := hc.below hB0
  have h10 := h1.below hB0
  have h20 := h2.below hB0
  have h30 := h3.below hB0
  generalize cok pc n zs = C at *
  generalize mok n1 n2 n3 = MM at *
  have ne0 : w.heap.size ≠ w.heap.size + 1 := by omega
  have ne1 : w.heap.size ≠ w.heap.size + 1 + 1 := by omega
  have ne2 : w.heap.size ≠ w.heap.size + 1 + 1 + 1 := by omega
  have ne3 : w.heap.size + 1 ≠ w.heap.size := by omega
  have ne4 : w.heap.size + 1 ≠ w.heap.size + 1 + 1 := by omega
  have ne5 : w.heap.size + 1 ≠ w.heap.size + 1 + 1 + 1 := by omega
  have ne6 : w.heap.size + 1 + 1 ≠ w.heap.size := by omega
  have ne7 : w.heap.size + 1 + 1 ≠ w.heap.size + 1 := by omega
  have ne8 : w.heap.size + 1 + 1 ≠ w.heap.size + 1 + 1 + 1 := by omega
  have ne9 : w.heap.size + 1 + 1 + 1 ≠ w.heap.size := by omega
  have ne10 : w.heap.size + 1 + 1 + 1 ≠ w.heap.size + 1 := by omega
  have ne11 : w.heap.size + 1 + 1 + 1 ≠ w.heap.size + 1 + 1 := by omega
  go_enter Tryz.func24, Tryz.ntmps24
  go_wp2_with fail
  rw [← hW]
  clear hW
  refine (HC.out _ hc0).mono ?_
  rintro e w1 ⟨rfl, hb1⟩
  have q0 := k0.below hb1
  have q1 := k1.below hb1
  have q2 := k2.below hb1
  have q3 := k3.below hb1
  have hB := hB0.trans (hb1.mono hB0.size)
  have cV := hc0.below hb1
  have m1V := h10.below hb1
  have m2V := h20.below hb1
  have m3V := h30.below hb1
  clear hb1 k0 k1 k2 k3 hc h1 h2 h3 hc0 h10 h20 h30 hB0
  cases C
  · clear hbad
    obtain ⟨t1, t2, t3⟩ := q0.two'
    obtain ⟨s1, s2, s3, s4⟩ := q1.three
    go_wp2_with fail
    go_region_held3 (fun w' => w'.cell? ⟨w.heap.size, 0, none⟩ = some (.int .i64 pc) ∧ w'.cell? ⟨w.heap.size, 1, none⟩ = some (.slice (some ⟨cb, co, none⟩) n cc) ∧ w'.cell? ⟨w.heap.size + 1, 0, none⟩ = some (.slice (some ⟨b1, o1, none⟩) n1 c1) ∧ w'.cell? ⟨w.heap.size + 1, 1, none⟩ = some (.slice (some ⟨b2, o2, none⟩) n2 c2) ∧ w'.cell? ⟨w.heap.size + 1, 2, none⟩ = some (.slice (some ⟨b3, o3, none⟩) n3 c3)) (go_keep)
      (first
        | (go_at_call 95; refine (HCC.out _ (by exact cV)).mono ?_; rintro e u1 ⟨ca, cp, rfl, oC, hbx⟩; replace hbx := undrew hbx; obtain ⟨t1, t2, t3⟩ := (q0.below hbx).two'; obtain ⟨s1, s2, s3, s4⟩ := (q1.below hbx).three)
        | (go_at_call 96; refine (HCM.out _ (m1V.below hbx) (m2V.below hbx) (m3V.below hbx)).mono ?_; rintro e u2 ⟨e1, d1, e2, d2, e3, d3, rfl, mF0, hby⟩; have bF := hbx.trans (hby.mono hbx.size); have oF : OI u2 w1.heap.size (.slice ca n cp) zs := OI.below (by exact oC) hby; have mF := own3_mono mF0 hbx.size; obtain ⟨t1, t2, t3⟩ := (q0.below bF).two'; obtain ⟨s1, s2, s3, s4⟩ := (q1.below bF).three; obtain ⟨z1, z2, z3⟩ := (q2.below bF).two'; obtain ⟨z4, z5, z6, z7⟩ := (q3.below bF).three)
        | (go_at_call 96; refine (HCM.out _ (by exact m1V) (by exact m2V) (by exact m3V)).mono ?_; rintro e u1 ⟨e1, d1, e2, d2, e3, d3, rfl, mM, hbx⟩; replace hbx := undrew hbx; obtain ⟨t1, t2, t3⟩ := (q0.below hbx).two'; obtain ⟨s1, s2, s3, s4⟩ := (q1.below hbx).three)
        | (go_at_call 95; refine (HCC.out _ (cV.below hbx)).mono ?_; rintro e u2 ⟨ca, cp, rfl, oC0, hby⟩; have bF := hbx.trans (hby.mono hbx.size); have mF : Own3 u2 w1.heap.size (.slice e1 n1 d1) (.slice e2 n2 d2) (.slice e3 n3 d3) x1 x2 x3 := own3_below (by exact mM) hby; have oF := oC0.mono hbx.size; obtain ⟨t1, t2, t3⟩ := (q0.below bF).two'; obtain ⟨s1, s2, s3, s4⟩ := (q1.below bF).three; obtain ⟨z1, z2, z3⟩ := (q2.below bF).two'; obtain ⟨z4, z5, z6, z7⟩ := (q3.below bF).three))
    all_goals
      obtain ⟨fA, ya0, ya1, ya2, ya3, ya4⟩ := st_fin (pc := pc) oF mF (q2.below bF) (q3.below bF) (hB.trans (bF.mono hB.size)) hB.size (by omega) (Or.inl rfl)
      obtain ⟨fB, yb0, yb1, yb2, yb3, yb4⟩ := st_fin (pc := pc) oF mF (q2.below bF) (q3.below bF) (hB.trans (bF.mono hB.size)) hB.size (by omega) (Or.inr rfl)
      simp only [setC, setM] at fA ya0 ya1 ya2 ya3 ya4 fB yb0 yb1 yb2 yb3 yb4
      have FA := hide fA
      have FB := hide fB
      clear fA fB oF mF bF
      go_wp2
      exact bodyPost_ret (v := .tuple #[.agg #[.int .i64 pc, .slice ca n cp], .agg #[.slice e1 n1 d1, .slice e2 n2 d2, .slice e3 n3 d3], .int .i64 5, .int .i64 2]) (by first | (simp [results, Tryz.results24, go_sem, ya0, ya1, ya2, ya3, ya4]; done) | (simp [results, Tryz.results24, go_sem, yb0, yb1, yb2, yb3, yb4]; done)) rfl
        ⟨ca, n, cp, e1, n1, d1, e2, n2, d2, e3, n3, d3, rfl, by first | exact FA.out.1 | exact FB.out.1, by first | exact FA.out.2.1 | exact FB.out.2.1, by first | exact FA.out.2.2 | exact FB.out.2.2⟩

  · have hMM : MM = false := by simpa using hbad
    subst hMM
    clear hbad
    obtain ⟨t1, t2, t3⟩ := q0.two'
    obtain ⟨s1, s2, s3, s4⟩ := q1.three
    go_wp2_with fail
    refine (HM.out _).mono ?_
    rintro e w2 ⟨rfl, hb2⟩
    replace q0 := q0.below hb2
    replace q1 := q1.below hb2
    replace q2 := q2.below hb2
    replace q3 := q3.below hb2
    replace hB := hB.trans (hb2.mono hB.size)
    replace cV := cV.below hb2
    replace m1V := m1V.below hb2
    replace m2V := m2V.below hb2
    replace m3V := m3V.below hb2
    clear hb2 t1 t2 t3 s1 s2 s3 s4
    obtain ⟨t1, t2, t3⟩ := q0.two'
    obtain ⟨s1, s2, s3, s4⟩ := q1.three
    go_wp2_with fail
    go_region_held3 (fun w' => w'.cell? ⟨w.heap.size, 0, none⟩ = some (.int .i64 pc) ∧ w'.cell? ⟨w.heap.size, 1, none⟩ = some (.slice (some ⟨cb, co, none⟩) n cc) ∧ w'.cell? ⟨w.heap.size + 1, 0, none⟩ = some (.slice (some ⟨b1, o1, none⟩) n1 c1) ∧ w'.cell? ⟨w.heap.size + 1, 1, none⟩ = some (.slice (some ⟨b2, o2, none⟩) n2 c2) ∧ w'.cell? ⟨w.heap.size + 1, 2, none⟩ = some (.slice (some ⟨b3, o3, none⟩) n3 c3)) (go_keep)
      (first
        | (go_at_call 95; refine (HCC.out _ (by exact cV)).mono ?_; rintro e u1 ⟨ca, cp, rfl, oC, hbx⟩; replace hbx := undrew hbx; obtain ⟨t1, t2, t3⟩ := (q0.below hbx).two'; obtain ⟨s1, s2, s3, s4⟩ := (q1.below hbx).three)
        | (go_at_call 96; refine (HCM.out _ (m1V.below hbx) (m2V.below hbx) (m3V.below hbx)).mono ?_; rintro e u2 ⟨e1, d1, e2, d2, e3, d3, rfl, mF0, hby⟩; have bF := hbx.trans (hby.mono hbx.size); have oF : OI u2 w2.heap.size (.slice ca n cp) zs := OI.below (by exact oC) hby; have mF := own3_mono mF0 hbx.size; obtain ⟨t1, t2, t3⟩ := (q0.below bF).two'; obtain ⟨s1, s2, s3, s4⟩ := (q1.below bF).three; obtain ⟨z1, z2, z3⟩ := (q2.below bF).two'; obtain ⟨z4, z5, z6, z7⟩ := (q3.below bF).three)
        | (go_at_call 96; refine (HCM.out _ (by exact m1V) (by exact m2V) (by exact m3V)).mono ?_; rintro e u1 ⟨e1, d1, e2, d2, e3, d3, rfl, mM, hbx⟩; replace hbx := undrew hbx; obtain ⟨t1, t2, t3⟩ := (q0.below hbx).two'; obtain ⟨s1, s2, s3, s4⟩ := (q1.below hbx).three)
        | (go_at_call 95; refine (HCC.out _ (cV.below hbx)).mono ?_; rintro e u2 ⟨ca, cp, rfl, oC0, hby⟩; have bF := hbx.trans (hby.mono hbx.size); have mF : Own3 u2 w2.heap.size (.slice e1 n1 d1) (.slice e2 n2 d2) (.slice e3 n3 d3) x1 x2 x3 := own3_below (by exact mM) hby; have oF := oC0.mono hbx.size; obtain ⟨t1, t2, t3⟩ := (q0.below bF).two'; obtain ⟨s1, s2, s3, s4⟩ := (q1.below bF).three; obtain ⟨z1, z2, z3⟩ := (q2.below bF).two'; obtain ⟨z4, z5, z6, z7⟩ := (q3.below bF).three))
    all_goals
      obtain ⟨fA, ya0, ya1, ya2, ya3, ya4⟩ := st_fin (pc := pc) oF mF (q2.below bF) (q3.below bF) (hB.trans (bF.mono hB.size)) hB.size (by omega) (Or.inl rfl)
      obtain ⟨fB, yb0, yb1, yb2, yb3, yb4⟩ := st_fin (pc := pc) oF mF (q2.below bF) (q3.below bF) (hB.trans (bF.mono hB.size)) hB.size (by omega) (Or.inr rfl)
      simp only [setC, setM] at fA ya0 ya1 ya2 ya3 ya4 fB yb0 yb1 yb2 yb3 yb4
      have FA := hide fA
      have FB := hide fB
      clear fA fB oF mF bF
      go_wp2
      exact bodyPost_ret (v := .tuple #[.agg #[.int .i64 pc, .slice ca n cp], .agg #[.slice e1 n1 d1, .slice e2 n2 d2, .slice e3 n3 d3], .int .i64 5, .int .i64 2]) (by first | (simp [results, Tryz.results24, go_sem, ya0, ya1, ya2, ya3, ya4]; done) | (simp [results, Tryz.results24, go_sem, yb0, yb1, yb2, yb3, yb4]; done)) rfl
        ⟨ca, n, cp, e1, n1, d1, e2, n2, d2, e3, n3, d3, rfl, by first | exact FA.out.1 | exact FB.out.1, by first | exact FA.out.2.1 | exact FB.out.2.1, by first | exact FA.out.2.2 | exact FB.out.2.2⟩
end Go.Proofs.YtngdgogjlpjjpadGreat
