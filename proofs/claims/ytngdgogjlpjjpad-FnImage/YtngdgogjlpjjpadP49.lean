import Derived.Test.YtngdgogjlpjjpadP42
import Derived.Test.YtngdgogjlpjjpadP47
import Derived.Test.YtngdgogjlpjjpadP46
import Derived.Test.YtngdgogjlpjjpadP48
namespace Go.Proofs.Ytngdgogjlpjjpad
open Go.RowKit
set_option linter.unusedVariables false
set_option linter.unusedSimpArgs false
set_option maxRecDepth 100000
theorem prs_zero {zs : List Int} (h : (prs zs).1 = 0) : ∃ P, prs zs = (0, some P) := by
  unfold prs at h ⊢
  split at h
  · simp at h
  rename_i c1
  rw [if_neg c1]
  split at h
  · simp at h
  rename_i c2
  rw [if_neg c2]
  cases e : pMod (zs.drop 2) with
  | none => rw [e] at h; simp at h
  | some x =>
    rw [e] at h
    dsimp only at h ⊢
    split at h
    · simp at h
    rename_i c3
    rw [if_neg c3]
    split at h
    · have hr := mdo_range x.1.nm x.1.tz.length x.1.tz x.1.bl.length (bkOf x.1.bl) x.1.dz.length x.1.bss x.1.rz.length x.1.rz x.1.ss.length x.1.ss x.1.es.length x.1.es
      have hr : 0 ≤ mdoP x.1 ∧ mdoP x.1 ≤ 6 := hr
      dsimp only at h
      omega
    · rename_i c4
      rw [if_neg c4]
      exact ⟨x.1, rfl⟩
theorem iEnc_out {X : World} {base : Nat} {P : PMod} {M : Ma} (mo : MO X base P M) (R : PmR P) (hv : mdoP P = 0) : Calls Try.prog 8 #[.agg #[.string P.nm, .slice M.a1 P.tz.length M.c1, .slice M.a2 M.bl.length M.c2, .slice M.a3 P.dz.length M.c3, .int .i64 P.bss, .slice M.a5 P.rz.length M.c5, .slice M.a6 P.ss.length M.c6, .slice M.a7 P.es.length M.c7]] X (OutP X (encP P)) := by
  have md := ModO.md mo R
  have hmo : mdo P.nm P.tz.length P.tz M.bl.length M.bl P.dz.length P.bss P.rz.length P.rz P.ss.length P.ss P.es.length P.es = mdoP P := ModO.mdo mo
  have hbl := mo.bls
  have fin : ∀ (e : Ending) (w' : World), EmPost X (encP P) e w' → OutP X (encP P) e w' := by
    rintro e w' ⟨a, n, c, rfl, ob, b, _⟩
    have hl := ob.bs.1
    have h2 : 0 < (encP P).length := by rw [encP_eq]; simp
    obtain ⟨g, cap, hg, _⟩ := World.ownsRow.form ob.1 (by omega)
    rw [hl] at hg
    exact ⟨g, n, cap, by rw [hg], by rw [← hg]; exact ob, b⟩
  obtain ⟨hl, ⟨h0, h1⟩ | ⟨g, cap, cur, hvv, _⟩⟩ := mo.d.1
  · obtain ⟨nm, tz, bl, dz, bss, rz, ss, es⟩ := P
    obtain ⟨a1, c1, a2, c2, bk, a3, c3, a5, c5, a6, c6, a7, c7⟩ := M
    dsimp only at *
    have hd : dz = [] := List.eq_nil_of_length_eq_zero h1
    subst hd
    simp at h0
    obtain ⟨rfl, rfl⟩ := h0
    have h := iEncodeModule_nil nm a1 tz.length c1 tz a2 bk.length c2 bk bss a5 rz.length c5 rz a6 ss.length c6 ss a7 es.length c7 es X md (by rw [← hv, ← hmo]; rfl)
    have e := encP_bl (P := ⟨nm, tz, bl, [], bss, rz, ss, es⟩) hbl
    dsimp only at e
    have h' : Calls Try.prog 8 _ X (EmPost X (encM nm tz bk.length bk ([] : List Int).length [] bss rz.length rz ss.length ss es.length es)) := h
    rw [e] at h'
    exact h'.mono fin
  · have h3 : M.a3 = some ⟨g, 0, none⟩ := by injection hvv
    have h := iEncodeModule_any P.nm M.a1 P.tz.length M.c1 P.tz M.a2 M.bl.length M.c2 M.bl g P.dz.length M.c3 P.dz P.bss M.a5 P.rz.length M.c5 P.rz M.a6 P.ss.length M.c6 P.ss M.a7 P.es.length M.c7 P.es X (by rw [← h3]; exact md) (by rw [hmo]; exact hv)
    rw [encP_bl hbl, ← h3] at h
    exact h.mono fin
set_option maxHeartbeats 8000000 in
theorem fnImage_walk (a : Option Addr) (n c : Nat) (zs : List Int) (w : World) (h : BS w a n c zs) :
    Calls Try.prog 3 #[.slice a n c] w fun e w' => e = .returned (.bool true) ∧ Below w.heap.size w w' := by
  by_cases hbig : 1048576 < n
  · have hbig' : (1048576 : Int) < (n : Int) := by omega
    go_enter Try.func3, Try.ntmps3
    go_wp2
    go_ret
    exact ⟨rfl, Below.refl _ _⟩
  have hsm : ¬ (1048576 : Int) < (n : Int) := by omega
  obtain ⟨B, ⟨hB, hBl⟩, HD⟩ := DrawParse_fn zs h.2.2.1
  have HD := hide (fun (W : World) (hb : Below w.heap.size w W) => HD W a n c (h.below hb))
  obtain ⟨hR, _⟩ := pOf_facts hB
  have HZ := hide (fun (hc : (prs B).1 = 0) => show encP (pOf B) = B ∧ mdoP (pOf B) = 0 by
    obtain ⟨P, hP⟩ := prs_zero hc
    have : pOf B = P := by unfold pOf; rw [hP]; rfl
    rw [this]
    exact ⟨(enc_prs hB hP).1, (enc_prs hB hP).2.1⟩)
  have HSP := hide (fun (W : World) (g m cap : Nat) (o : BS W (some ⟨g, 0, none⟩) m cap B) (hg : g < W.heap.size) => (sParseModule_any g m cap B W o (by have := o.1; omega) hg).mono (fun e w' he => pa_mod he))
  have HIP := hide (fun (W : World) (g m cap : Nat) (o : BS W (some ⟨g, 0, none⟩) m cap B) (hg : g < W.heap.size) => (iParseModule_any g m cap B W o (by have := o.1; omega) hg).mono (fun e w' he => pa_mod he))
  unfold PaM at HSP HIP
  obtain ⟨P, hP⟩ : ∃ P, P = pOf B := ⟨_, rfl⟩
  obtain ⟨C, hC⟩ : ∃ C, C = (prs B).1 := ⟨_, rfl⟩
  rw [← hP, ← hC] at HSP HIP
  rw [← hP] at hR HZ
  rw [← hC] at HZ
  have HR := hide hR
  clear h hP hC hR
  go_enter Try.func3, Try.ntmps3
  go_wp2_with fail
  refine (HD.out w (Below.refl _ _)).mono ?_
  rintro e w1 ⟨g, m, cap, rfl, ob, b1⟩
  have hgl := (ob.lt g rfl).2
  have HO := hide ob.bs
  have H1 := hide (HSP.out w1 g m cap ob.bs hgl)
  have HB1 := hide b1
  clear ob b1 HSP
  go_wp2_with fail
  refine H1.out.mono ?_
  rintro e w2 ⟨b2, a1, c1, a2, c2, bl, a3, c3, a5, c5, a6, c6, a7, c7, rfl, _⟩
  have al := al_below w2 (.cells #[.string P.nm, .slice a1 P.tz.length c1, .slice a2 bl.length c2, .slice a3 P.dz.length c3, .int .i64 P.bss, .slice a5 P.rz.length c5, .slice a6 P.ss.length c6, .slice a7 P.es.length c7] 29)
  have B2 := (HB1.out.trans (b2.mono HB1.out.size)).trans (al.mono (HB1.out.trans (b2.mono HB1.out.size)).size)
  have HO2 := hide ((HO.out.below b2).below al)
  have CC := hide (HD.out _ B2)
  have HB2 := hide B2
  clear al b2 B2 H1 HB1 HO HD
  unfold modV
  go_wp2_with fail
  refine CC.out.mono ?_
  rintro e w3 ⟨g', m', cap', rfl, ob3, b3⟩
  have H3 := hide (HIP.out w3 g' m' cap' ob3.bs (ob3.lt g' rfl).2)
  have HB3 := hide (HB2.out.trans (b3.mono HB2.out.size))
  have HO3 := hide (HO2.out.below b3)
  clear CC ob3 b3 HIP HB2 HO2
  go_wp2_with fail
  refine H3.out.mono ?_
  rintro e w4 ⟨b4, e1, d1, e2, d2, bm, e3, d3, e5, d5, e6, d6, e7, d7, rfl, mo4⟩
  have al := al_below w4 (.cells #[.string P.nm, .slice e1 P.tz.length d1, .slice e2 bm.length d2, .slice e3 P.dz.length d3, .int .i64 P.bss, .slice e5 P.rz.length d5, .slice e6 P.ss.length d6, .slice e7 P.es.length d7] 29)
  have kb := Blk.new w4 #[.string P.nm, .slice e1 P.tz.length d1, .slice e2 bm.length d2, .slice e3 P.dz.length d3, .int .i64 P.bss, .slice e5 P.rz.length d5, .slice e6 P.ss.length d6, .slice e7 P.es.length d7] 29
  have mo5 : MO _ w3.heap.size P ⟨e1, d1, e2, d2, bm, e3, d3, e5, d5, e6, d6, e7, d7⟩ := MO.below (show MO w4 w3.heap.size P ⟨e1, d1, e2, d2, bm, e3, d3, e5, d5, e6, d6, e7, d7⟩ from mo4) al
  have B5 := (HB3.out.trans (b4.mono HB3.out.size)).trans (al.mono (HB3.out.trans (b4.mono HB3.out.size)).size)
  have o5 := (HO3.out.below b4).below al
  have hcc : (C != C) = false := by simp
  unfold modV
  have HK := hide (And.intro kb (And.intro mo5 (And.intro B5 o5)))
  clear kb mo5 B5 o5 al b4 mo4 H3 HB3 HO3
  by_cases hc : C = 0
  · obtain ⟨hz1, hz2⟩ := HZ.out hc
    obtain ⟨W5, hW5⟩ : ∃ W5, W5 = w4.alloc (.cells #[.string P.nm, .slice e1 P.tz.length d1, .slice e2 bm.length d2, .slice e3 P.dz.length d3, .int .i64 P.bss, .slice e5 P.rz.length d5, .slice e6 P.ss.length d6, .slice e7 P.es.length d7] 29) := ⟨_, rfl⟩
    rw [← hW5] at HK
    obtain ⟨kb, mo5, B5, o5⟩ := HK.out
    obtain ⟨x0, x1, x2, x3, x4, x5, x6, x7⟩ := kb.eight'
    have hmB : B.length = m := o5.1
    have HCB := hide (fun (W' : World) (G N Cc : Nat) (hb : BS W' (some ⟨G, 0, none⟩) N Cc B) => show (convert 22 9 (.slice (some ⟨G, 0, none⟩) N Cc)).run Try.prog W' = .ok (.string (strOf B)) W' by
      have e := hb.1
      subst e
      exact run_text W' G 0 Cc B hb)
    have HEn := hide (fun (X : World) (mo : MO X w3.heap.size P ⟨e1, d1, e2, d2, bm, e3, d3, e5, d5, e6, d6, e7, d7⟩) => iEnc_out mo HR.out hz2)
    rw [hz1] at HEn
    have HMk := hide (fun (X : World) (mo : MO X w3.heap.size P ⟨e1, d1, e2, d2, bm, e3, d3, e5, d5, e6, d6, e7, d7⟩) => show Calls Try.prog 9 #[.agg #[.string P.nm, .slice e1 P.tz.length d1, .slice e2 bm.length d2, .slice e3 P.dz.length d3, .int .i64 P.bss, .slice e5 P.rz.length d5, .slice e6 P.ss.length d6, .slice e7 P.es.length d7]] X (fun e w' => e = .returned (.int .i64 0) ∧ Below X.heap.size X w') by
      have h := iModuleOk_any _ _ _ _ _ _ _ _ _ _ _ _ _ _ _ _ _ _ _ _ _ _ _ _ _ _ _ (ModO.md mo HR.out)
      rw [ModO.mdo mo, hz2] at h
      exact h)
    have q1 := HCB.out W5 g m cap o5
    have q2 := HCB.out W5.drew g m cap (o5.below (Below.refl _ _).drew)
    have HMO := hide mo5
    have HB5 := hide B5
    have HO5 := hide o5
    have HKB := hide kb
    rw [hW5] at q1 q2 x0 x1 x2 x3 x4 x5 x6 x7
    clear kb mo5 B5 o5 HK hmB HZ hz1 hz2
    subst hc
    go_wp2_with fail
    rw [← hW5] at *
    go_region_law (first
      | (go_simp; go_at_call 8; refine (HEn.out _ (by first | exact HMO.out | exact HMO.out.below (Below.refl _ _).drew)).mono ?_; rintro e wa ⟨ga, na, ca, rfl, oa, ba⟩; have q3 := HCB.out wa ga na ca oa.bs; have q4 := HCB.out wa.drew ga na ca (oa.bs.below (Below.refl _ _).drew); have ba' : Below W5.heap.size W5 wa := ⟨ba.os, ba.tape, ba.output, ba.size, ba.block⟩; have q5 := HCB.out wa g m cap (HO5.out.below ba'); have q6 := HCB.out wa.drew g m cap ((HO5.out.below ba').below (Below.refl _ _).drew); obtain ⟨y0, y1, y2, y3, y4, y5, y6, y7⟩ := (HKB.out.below ba').eight'; have HMA := hide (HMO.out.below ba'); have HBA := hide (HB5.out.trans (ba'.mono HB5.out.size)); clear ba ba' oa)
      | (go_simp; go_at_call 9; refine (HMk.out _ (by first | exact HMA.out | exact HMA.out.below (Below.refl _ _).drew)).mono ?_; rintro e wb ⟨rfl, bb⟩; have HBF := hide (show Below w.heap.size w wb from ⟨(bb.os.trans HBA.out.os), (bb.tape.trans HBA.out.tape), (bb.output.trans HBA.out.output), Nat.le_trans HBA.out.size bb.size, fun k hk => (bb.block k (Nat.lt_of_lt_of_le hk HBA.out.size)).trans (HBA.out.block k hk)⟩); clear bb))
    all_goals
      go_wp2
      go_ret
      exact ⟨rfl, by first | exact HBF.out | exact HBF.out.drew⟩
  · have hc1 : (C != 0) = true := by simp [hc]
    have HBK := hide HK.out.2.2.1
    clear HK
    go_wp2_with fail
    go_quiet (fail)
    go_wp2
    go_ret
    exact ⟨rfl, ⟨HBK.out.os, HBK.out.tape, HBK.out.output, HBK.out.size, HBK.out.block⟩⟩
end Go.Proofs.Ytngdgogjlpjjpad
