import Derived.Test.YtngdgogjlpjjpacP41
import Derived.Test.YtngdgogjlpjjpacP50
import Derived.Test.YtngdgogjlpjjpacP51
import Derived.Test.YtngdgogjlpjjpacP52
namespace Go.Proofs.Ytngdgogjlpjjpac
open Go.RowKit
set_option linter.unusedVariables false
set_option linter.unusedSimpArgs false
set_option maxRecDepth 100000
set_option maxHeartbeats 8000000 in
theorem fnModule_walk (a : Option Addr) (n c : Nat) (zs : List Int) (w : World) (h : BS w a n c zs) :
    Calls Try.prog 6 #[.slice a n c] w fun e w' => e = .returned (.bool true) ∧ Below w.heap.size w w' := by
  by_cases hbig : 1048576 < n
  · have hbig' : (1048576 : Int) < (n : Int) := by omega
    go_enter Try.func6, Try.ntmps6
    go_wp2
    go_ret
    exact ⟨rfl, Below.refl _ _⟩
  have hsm : ¬ (1048576 : Int) < (n : Int) := by omega
  obtain ⟨P, DP, HD⟩ := DrawModuleOk_fn zs h.2.2.1
  have HD := hide (fun (W : World) (hb : Below w.heap.size w W) => HD W a n c (h.below hb))
  have hmr := mdo_range P.nm P.tz.length P.tz P.bl.length (bkOf P.bl) P.dz.length P.bss P.rz.length P.rz P.ss.length P.ss P.es.length P.es
  have hmr : 0 ≤ mdoP P ∧ mdoP P ≤ 6 := hmr
  have HDP := hide DP
  clear h DP
  go_enter Try.func6, Try.ntmps6
  go_wp2_with fail
  refine (HD.out w (Below.refl _ _)).mono ?_
  rintro e w1 ⟨M, rfl, mo, ds, b1⟩
  have hs1 := b1.size
  have al := al_below w1 (.cells #[.string P.nm, .slice M.a1 P.tz.length M.c1, .slice M.a2 M.bl.length M.c2, .slice M.a3 P.dz.length M.c3, .int .i64 P.bss, .slice M.a5 P.rz.length M.c5, .slice M.a6 P.ss.length M.c6, .slice M.a7 P.es.length M.c7] 56)
  have kb := Blk.new w1 #[.string P.nm, .slice M.a1 P.tz.length M.c1, .slice M.a2 M.bl.length M.c2, .slice M.a3 P.dz.length M.c3, .int .i64 P.bss, .slice M.a5 P.rz.length M.c5, .slice M.a6 P.ss.length M.c6, .slice M.a7 P.es.length M.c7] 56
  have mo1 := mo.below al
  have B1 := b1.trans (al.mono hs1)
  have HS := hide (sModuleOk_any _ _ _ _ _ _ _ _ _ _ _ _ _ _ _ _ _ _ _ _ _ _ _ _ _ _ _ (mo1.md HDP.out))
  rw [mo1.mdo'] at HS
  have HK := hide (And.intro kb (And.intro mo1 B1))
  clear kb mo1 B1 al mo ds b1
  have hg1 : w1.heap.size < (w1.alloc (.cells #[.string P.nm, .slice M.a1 P.tz.length M.c1, .slice M.a2 M.bl.length M.c2, .slice M.a3 P.dz.length M.c3, .int .i64 P.bss, .slice M.a5 P.rz.length M.c5, .slice M.a6 P.ss.length M.c6, .slice M.a7 P.es.length M.c7] 56)).heap.size := by simp
  go_wp2_with fail
  refine HS.out.mono ?_
  rintro e w2 ⟨rfl, b2⟩
  obtain ⟨kb, mo1, B1⟩ := HK.out
  have B2 := B1.trans (b2.mono B1.size)
  have HK2 := hide (And.intro (kb.below b2) (And.intro (mo1.below b2) B2))
  have CC := hide (HD.out w2 B2)
  clear kb mo1 B1 B2 b2 HS HK HD
  go_wp2_with fail
  refine CC.out.mono ?_
  rintro e w3 ⟨M2, rfl, mo3, ds3, b3⟩
  obtain ⟨kb, mo1, B2⟩ := HK2.out
  have B3 := B2.trans (b3.mono B2.size)
  have HK3 := hide (And.intro (kb.below b3) (And.intro (mo1.below b3) B3))
  obtain ⟨db, hdb⟩ := ds3
  clear CC HK2 kb mo1 B2 b3
  by_cases hv : mdoP P = 0
  · have HE := hide (iEncodeModule_any P.nm M2.a1 P.tz.length M2.c1 P.tz M2.a2 M2.bl.length M2.c2 M2.bl db P.dz.length M2.c3 P.dz P.bss M2.a5 P.rz.length M2.c5 P.rz M2.a6 P.ss.length M2.c6 P.ss M2.a7 P.es.length M2.c7 P.es w3 (by rw [← hdb]; exact mo3.md HDP.out) (by rw [mo3.mdo']; exact hv))
    rw [encP_bl mo3.bls, ← hdb] at HE
    have hPd : Byt P.dz := HDP.out.d.2
    have HPR := hide (prs_enc hv hPd)
    have hEl := encQ_len (vp_of hv)
    have hE2 : (encP P).length = 2 + (encQ P).length := by rw [encP_eq]; simp; omega
    have HEB := hide (encP_byt hPd)
    clear mo3 hdb B3 hPd
    go_wp2_with fail
    refine HE.out.mono ?_
    rintro e w4 ⟨ga, gn, gc, rfl, OB4, b4, _⟩
    have hgn := OB4.bs.1
    obtain ⟨g, cap, hgv, _⟩ := World.ownsRow.form OB4.1 (by omega)
    simp only [Value.slice.injEq] at hgv
    obtain ⟨rfl, hgn', rfl⟩ := hgv
    obtain ⟨kb, mo1, B3⟩ := HK3.out
    have kb4 := kb.below b4
    have mo4 := mo1.below b4
    have B4 := B3.trans (b4.mono B3.size)
    have HI := hide (iModuleOk_any _ _ _ _ _ _ _ _ _ _ _ _ _ _ _ _ _ _ _ _ _ _ _ _ _ _ _ (mo4.md HDP.out))
    rw [mo4.mdo', hv] at HI
    obtain ⟨x0, x1, x2, x3, x4, x5, x6, x7⟩ := kb4.eight'
    have HK4 := hide (And.intro kb4 (And.intro mo4 (And.intro B4 (And.intro OB4 (OB4.lt g rfl).2))))
    have hgp : (0 : Int) < (gn : Int) := by omega
    have hgN : 0 < gn := by omega
    have hgd : decide (0 < gn) = true := decide_eq_true hgN
    have hgs : gn ≤ 1048576 := by omega
    clear kb mo1 B3 kb4 mo4 B4 OB4 b4 HE HK3 hgn'
    go_wp2_with fail
    refine HI.out.mono ?_
    rintro e w5 ⟨rfl, b5⟩
    obtain ⟨kb4, mo4, B4, OB4, hgl⟩ := HK4.out
    have HP := hide (iParseModule_any g gn gc (encP P) w5 (OB4.bs.below b5) hgs (by have := b5.size; omega))
    rw [HPR.out] at HP
    have HK5 := hide (And.intro (kb4.below b5) (And.intro (mo4.below b5) (B4.trans (b5.mono B4.size))))
    clear kb4 mo4 B4 OB4 hgl HI HK4 b5 x0 x1 x2 x3 x4 x5 x6 x7
    go_wp2_with fail
    refine HP.out.mono ?_
    rintro e w6 ⟨b6, a1, c1, a2, c2, bl, a3, c3, a5, c5, a6, c6, a7, c7, rfl, mo6⟩
    obtain ⟨kb5, mo5, B5⟩ := HK5.out
    have al := al_below w6 (.cells #[.string P.nm, .slice a1 P.tz.length c1, .slice a2 bl.length c2, .slice a3 P.dz.length c3, .int .i64 P.bss, .slice a5 P.rz.length c5, .slice a6 P.ss.length c6, .slice a7 P.es.length c7] 56)
    have N0 : MO w6 w5.heap.size P ⟨a1, c1, a2, c2, bl, a3, c3, a5, c5, a6, c6, a7, c7⟩ := mo6
    have N1 := N0.below al
    have mo7 := (mo5.below b6).below al
    have kb7 := (kb5.below b6).below al
    have B7 := (B5.trans (b6.mono B5.size)).trans (al.mono (B5.trans (b6.mono B5.size)).size)
    have HSM := hide (SameModule_same P ⟨a1, c1, a2, c2, bl, a3, c3, a5, c5, a6, c6, a7, c7⟩ M _ (N1.md HDP.out) (mo7.md HDP.out) N1.bls mo7.bls (by have h1 := congrArg List.length N1.bls; rw [List.length_map] at h1; have := HDP.out.b.1; omega) (by have := HDP.out.i.1; omega) (by have := HDP.out.e.1; omega))
    obtain ⟨x0, x1, x2, x3, x4, x5, x6, x7⟩ := kb7.eight'
    have HB7 := hide B7
    clear kb5 mo5 B5 al N0 N1 mo7 kb7 B7 HP HK5 mo6 b6
    unfold modV
    go_wp2_with fail
    refine HSM.out.mono ?_
    rintro e w8 ⟨rfl, b8⟩
    go_wp2
    go_ret
    exact ⟨rfl, HB7.out.trans (b8.mono HB7.out.size)⟩
  · have HE := hide (iEncodeModule_bad P.nm M2.a1 P.tz.length M2.c1 P.tz M2.a2 M2.bl.length M2.c2 M2.bl M2.a3 P.dz.length M2.c3 P.dz P.bss M2.a5 P.rz.length M2.c5 P.rz M2.a6 P.ss.length M2.c6 P.ss M2.a7 P.es.length M2.c7 P.es w3 (mo3.md HDP.out) (by rw [mo3.mdo']; exact hv))
    clear mo3 hdb B3
    go_wp2_with fail
    refine HE.out.mono ?_
    rintro e w4 ⟨ga, gn, gc, rfl, OB4, b4, _⟩
    have hgn := OB4.bs.1
    obtain rfl : gn = 0 := by simpa using hgn.symm
    obtain ⟨kb, mo1, B3⟩ := HK3.out
    have kb4 := kb.below b4
    have mo4 := mo1.below b4
    have B4 := B3.trans (b4.mono B3.size)
    have HI := hide (iModuleOk_any _ _ _ _ _ _ _ _ _ _ _ _ _ _ _ _ _ _ _ _ _ _ _ _ _ _ _ (mo4.md HDP.out))
    rw [mo4.mdo'] at HI
    obtain ⟨x0, x1, x2, x3, x4, x5, x6, x7⟩ := kb4.eight'
    have HB4 := hide B4
    clear kb mo1 B3 kb4 mo4 B4 OB4 b4 HE HK3
    generalize mdoP P = V at *
    go_wp2_with fail
    refine HI.out.mono ?_
    rintro e w5 ⟨rfl, b5⟩
    have hvv : (V != V) = false := by simp
    have hv0 : (V == 0) = false := by simp [hv]
    have hv1 : (V != 0) = true := by simp [hv]
    have HB5 := hide (HB4.out.trans (b5.mono HB4.out.size))
    clear HI b5 HB4 x0 x1 x2 x3 x4 x5 x6 x7
    go_wp2
    go_ret
    exact ⟨rfl, HB5.out⟩
end Go.Proofs.Ytngdgogjlpjjpac
