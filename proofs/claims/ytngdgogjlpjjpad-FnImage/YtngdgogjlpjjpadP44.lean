import Derived.Test.YtngdgogjlpjjpadP14
import Derived.Test.YtngdgogjlpjjpadP23
namespace Go.Proofs.Ytngdgogjlpjjpad
open Go.RowKit
set_option linter.unusedVariables false
set_option linter.unusedSimpArgs false
set_option maxRecDepth 100000
set_option maxHeartbeats 8000000 in
theorem sEncodeModule_any (nm : ByteArray) (ta : Option Addr) (tn tc : Nat) (tz : List Int) (ba : Option Addr) (bn bc : Nat) (bl : List Bk) (db : Nat) (dn dc : Nat) (dz : List Int) (bss : Int) (ra : Option Addr) (rn rc : Nat) (rz : List Int) (ia : Option Addr) (im ic : Nat) (ss : List ByteArray) (ea : Option Addr) (en ec : Nat) (es : List Ex) (w : World)
    (h : MD w nm ta tn tc tz ba bn bc bl (some ⟨db, 0, none⟩) dn dc dz bss ra rn rc rz ia im ic ss ea en ec es) (hv : mdo nm tn tz bn bl dn bss rn rz im ss en es = 0) :
    Calls Try.prog 11 #[.agg #[.string nm, .slice ta tn tc, .slice ba bn bc, .slice (some ⟨db, 0, none⟩) dn dc, .int .i64 bss, .slice ra rn rc, .slice ia im ic, .slice ea en ec]] w (EmPost w (encM nm tz bn bl dn dz bss rn rz im ss en es)) := by
  obtain ⟨i0, hi, hz0, hz1, hz2⟩ := info_parts info8
  have V := vm_of_mdo h.b.1 hv
  have HOK := hide (fun w h => sModuleOk_any nm ta tn tc tz ba bn bc bl (some ⟨db, 0, none⟩) dn dc dz bss ra rn rc rz ia im ic ss ea en ec es w h)
  rw [hv] at HOK
  clear hv
  have v1 := V.n
  have v2 := V.t
  have v3 := V.b
  have v4 := V.d
  have v5 := V.s
  have v6 := V.r
  have v7 := V.i
  have v8 := V.e
  have HTX := hide (fun (s : ByteArray) (w : World) (hs : s.size ≤ 25) => l4Text_any s w (by omega))
  obtain ⟨mc, hmc⟩ : ∃ mc : Array Value, mc = #[.string nm, .slice ta tn tc, .slice ba bn bc, .slice (some ⟨db, 0, none⟩) dn dc, .int .i64 bss, .slice ra rn rc, .slice ia im ic, .slice ea en ec] := ⟨_, rfl⟩
  have HMC := hide hmc
  have k0 := Blk.new w #[.string nm, .slice ta tn tc, .slice ba bn bc, .slice (some ⟨db, 0, none⟩) dn dc, .int .i64 bss, .slice ra rn rc, .slice ia im ic, .slice ea en ec] 29
  have hB0 : Below w.heap.size w (w.alloc (.cells #[.string nm, .slice ta tn tc, .slice ba bn bc, .slice (some ⟨db, 0, none⟩) dn dc, .int .i64 bss, .slice ra rn rc, .slice ia im ic, .slice ea en ec] 29)) := (Below.refl _ _).alloc (Nat.le_refl _) _
  have HBX := hide (fun (W : World) (hb : Blk W w.heap.size mc 29) => Blk.mod (show Blk W w.heap.size #[.string nm, .slice ta tn tc, .slice ba bn bc, .slice (some ⟨db, 0, none⟩) dn dc, .int .i64 bss, .slice ra rn rc, .slice ia im ic, .slice ea en ec] 29 by rw [← HMC.out]; exact hb))
  have HK0 := hide (show Blk (w.alloc (.cells #[.string nm, .slice ta tn tc, .slice ba bn bc, .slice (some ⟨db, 0, none⟩) dn dc, .int .i64 bss, .slice ra rn rc, .slice ia im ic, .slice ea en ec] 29)) w.heap.size mc 29 by rw [hmc]; exact k0)
  clear hmc k0
  go_enter Try.func11, Try.ntmps11
  go_wp2_with fail
  refine (HOK.out _ (MD.below h hB0)).mono ?_
  rintro e w1 ⟨rfl, hb1⟩
  have k1 := HK0.out.below hb1
  have hB1 := hB0.trans (hb1.mono (by simp))
  have hsz1 := k1.lt
  clear hb1 hB0 HOK HK0
  have al1 : Below w1.heap.size w1 (w1.alloc (.cells #[.int .u8 88, .int .u8 77] 5)) := (Below.refl _ _).alloc (Nat.le_refl _) _
  have E0 : Ew w (w1.alloc (.cells #[.int .u8 88, .int .u8 77] 5)) mc w1.heap.size 2 2 [88, 77] := ⟨k1.below al1, ob_two w1 _ (by omega) 88 77 (by omega) (by omega), hB1.trans (al1.mono hB1.size), by simp⟩
  clear k1 al1 hB1
  obtain ⟨q0, q1, q2, q3, q4, q5, q6, q7⟩ := HBX.out _ E0.box
  go_wp2_with fail
  refine (HTX.out nm _ (by omega)).mono ?_
  rintro e w2 ⟨g2, d2, rfl, o2, hb2⟩
  obtain ⟨m2, hm2⟩ : ∃ m, m = (encT nm).length := ⟨_, rfl⟩
  have hm2' : 1 ≤ m2 ∧ m2 ≤ 13 := by rw [hm2, encT_len]; omega
  rw [← hm2] at o2 ⊢
  have E0 := E0.step hb2
  have HX2 := hide (And.intro hm2 (And.intro o2.2 (ob_cells o2)))
  have HE0 := hide E0
  clear q0 q1 q2 q3 q4 q5 q6 q7 o2 hb2 hm2 E0
  go_wp2_with (at_builtin; refine list_ew HE0.out rfl _ _ rfl rfl ⟨g2, 0, none⟩ m2 d2 rfl HX2.out.1.symm HX2.out.2.1 HX2.out.2.2 (by omega) (by omega) ?_; intro g3 d3 w3 E3)
  clear HX2 HE0
  obtain ⟨n3, hn3⟩ : ∃ n3, n3 = 2 + m2 := ⟨_, rfl⟩
  rw [← hn3] at E3 ⊢
  have hn3' : 3 ≤ n3 ∧ n3 ≤ 15 := by omega
  rw [show ([88, 77] : List Int) ++ encT nm = enc0 nm from rfl] at E3
  have HLI := hide (fun (w : World) (h : IS w ta tn tc tz) => l4List_any ta tn tc tz w h (by omega) V.tw)
  obtain ⟨m4, hm4⟩ : ∃ m, m = (encL tz).length := ⟨_, rfl⟩
  have hm4' : 2 ≤ m4 ∧ m4 ≤ 802 := by rw [hm4, encL_len, h.t.1]; omega
  unfold EnPost at HLI
  rw [← hm4] at HLI
  have HM4 := hide hm4
  have HN1 := hide (fun w => l4Num_any bn 1 w (Or.inl rfl) (by omega) (by omega))
  have HE3 := hide E3
  obtain ⟨q0, q1, q2, q3, q4, q5, q6, q7⟩ := HBX.out _ E3.box
  clear E3 hn3 hm2' hm4
  go_region_held3 (fun w' => w'.cell? ⟨w.heap.size, 1, none⟩ = some (.slice ta tn tc) ∧ w'.cell? ⟨w.heap.size, 2, none⟩ = some (.slice ba bn bc)) (go_keep) (first
    | (refine step_ew HE6.out rfl _ _ rfl rfl ⟨w5.heap.size, 0, none⟩ 1 1 rfl (encN_len _ _) (encN_range _ _) (ob_cells HO6.out) (by omega) (by omega) ?_; intro g7 d7 w7 E7; have HE7 := hide E7; clear E7; obtain ⟨q0, q1, q2, q3, q4, q5, q6, q7⟩ := HBX.out _ HE7.out.box)
    | (refine step_ew HE4.out rfl _ _ rfl rfl ⟨g4, 0, none⟩ m4 d4 rfl HM4.out.symm HO4.out.2 (ob_cells HO4.out) (by omega) (by omega) ?_; intro g5 d5 w5 E5; have HE5 := hide E5; clear E5 HE4 HO4; obtain ⟨q0, q1, q2, q3, q4, q5, q6, q7⟩ := HBX.out _ HE5.out.box)
    | (go_simp; go_at_call 45; refine (HN1.out _).mono ?_; rintro e w6 ⟨rfl, o6, hb6⟩; have HE6 := hide (HE5.out.step hb6); have HO6 := hide o6; obtain ⟨q0, q1, q2, q3, q4, q5, q6, q7⟩ := HBX.out _ HE6.out.box)
    | (go_simp; go_at_call 44; refine (HLI.out _ (by first | exact h.t.below HE3.out.below.drew | exact h.t.below HE3.out.below)).mono ?_; rintro e w4 ⟨g4, d4, rfl, o4, hb4⟩; replace hb4 := undrew hb4; have HE4 := hide (HE3.out.step hb4); have HO4 := hide o4; obtain ⟨q0, q1, q2, q3, q4, q5, q6, q7⟩ := HBX.out _ HE4.out.box))
  have E7 := HE7.out
  rw [show enc0 nm ++ encL tz ++ encN bn 1 = enc1 nm tz bn from rfl] at E7
  obtain ⟨n7, hn7⟩ : ∃ n7, n7 = n3 + m4 + 1 := ⟨_, rfl⟩
  rw [← hn7] at E7 ⊢
  have hn7' : 3 ≤ n7 ∧ n7 ≤ 820 := by omega
  have HV := hide V
  clear HE3 HE5 HE6 HE7 HO6 HM4 HLI HN1 hn7 hn3' hm4' q0 q1 q2 q3 q4 q5 q6 q7 V hb4 hb6 o4 o6
  go_wp2_with fail
  go_loopw [3, 4] (fun x i wr => ∃ (k q n c : Nat), k ≤ bn ∧ i = .int .i64 k ∧ x = .slice (some ⟨q, 0, none⟩) n c ∧ Ew w wr mc q n c (enc1 nm tz bn ++ encBs bl k) ∧ 3 ≤ n ∧ n ≤ 820 + k * 300) (fun _ i _ => bn - (intOf i).toNat)
  case atStart => exact ⟨0, g7, n7, d7, Nat.zero_le _, rfl, rfl, by simpa [encBs] using E7, by omega, by omega⟩
  case round =>
    obtain ⟨k, q, n, c, hk, rfl, rfl, E8, hn0, hn1⟩ := hrel
    clear E7
    obtain ⟨q0, q1, q2, q3, q4, q5, q6, q7⟩ := HBX.out _ E8.box
    by_cases hlt : k < bn
    · have hlt' : (k : Int) < (bn : Int) := by omega
      have hbk := h.b.below E8.below
      obtain ⟨bb, off, rfl⟩ := hbk.addr (by omega)
      have hc := hbk.at k hlt
      have hI := hbk.2.2.2.1 k hlt
      have hw := HV.out.bw k (by rw [h.b.1]; exact hlt)
      have HS := hide (show enc1 nm tz bn ++ encBs bl (k + 1) = enc1 nm tz bn ++ encBs bl k ++ encL (bl.getD k zB).2.2.2 by unfold encBs; rw [flat_succ _ bl zB k (by rw [h.b.1]; exact hlt), List.append_assoc])
      generalize enc1 nm tz bn ++ encBs bl k = out at *
      generalize bl.getD k zB = B at *
      obtain ⟨Ba, Bn, Bc, Bz⟩ := B
      dsimp only at hc hI hw HS
      have HLI := hide (fun (w : World) (h : IS w Ba Bn Bc Bz) => l4List_any Ba Bn Bc Bz w h (by omega) hw.2)
      obtain ⟨m4, hm4⟩ : ∃ m, m = (encL Bz).length := ⟨_, rfl⟩
      have hm4' : 2 ≤ m4 ∧ m4 ≤ 258 := by rw [hm4, encL_len, hI.1]; omega
      unfold EnPost at HLI
      rw [← hm4] at HLI
      have HM4 := hide hm4
      clear hm4 hw
      go_wp2_with fail
      refine (HLI.out _ hI).mono ?_
      rintro e w9 ⟨g9, d9, rfl, o9, hb9⟩
      have HE9 := hide (E8.step hb9)
      have HO9 := hide o9
      clear hb9 o9 E8 hI hbk hc q0 q1 q2 q3 q4 q5 q6 q7 HLI
      go_wp2_with (at_builtin; refine list_ew HE9.out rfl _ _ rfl rfl ⟨g9, 0, none⟩ m4 d9 rfl HM4.out.symm HO9.out.2 (ob_cells HO9.out) (by omega) (by omega) ?_; intro g10 d10 w10 E10)
      rw [← HS.out] at E10
      have HX := hide E10
      clear E10 HE9 HO9
      go_roundw
      case rel => exact ⟨k + 1, g10, n + m4, d10, by omega, by go_num, rfl, HX.out, by omega, by omega⟩
      case measure => simp [intOf]; omega
    · obtain rfl : bn = k := by omega
      clear hlt hk q0 q1 q4 q5 q6 q7
      have hn8 : n ≤ 2020 := by omega
      clear hn1
      have HE8 := hide E8
      clear E8
      have hdl := h.d.1
      have HDL := hide hdl
      clear hdl
      have HN2 := hide (fun w => l4Num_any dn 2 w (Or.inr (Or.inl rfl)) (by omega) (by omega))
      go_wp2_with fail
      go_region_held3 (fun w' => w'.cell? ⟨w.heap.size, 3, none⟩ = some (.slice (some ⟨db, 0, none⟩) dn dc)) (go_keep) (first
        | (refine step_ew HE12.out rfl _ _ rfl rfl ⟨db, 0, none⟩ dn dc rfl HDL.out h.d.2.2.1 (bs_news (h.d.below HE12.out.below)) (by omega) (by omega) ?_; intro g13 d13 w13 E13; have HE13 := hide E13; clear E13; obtain ⟨q0, q1, q2, q3, q4, q5, q6, q7⟩ := HBX.out _ HE13.out.box)
        | (refine step_ew HE11.out rfl _ _ rfl rfl ⟨wr.heap.size, 0, none⟩ 2 2 rfl (encN_len _ _) (encN_range _ _) (ob_cells HO11.out) (by omega) (by omega) ?_; intro g12 d12 w12 E12; have HE12 := hide E12; clear E12 HE11 HO11; obtain ⟨q0, q1, q2, q3, q4, q5, q6, q7⟩ := HBX.out _ HE12.out.box)
        | (go_simp; go_at_call 45; refine (HN2.out _).mono ?_; rintro e w11 ⟨rfl, o11, hb11⟩; replace hb11 := undrew hb11; have HE11 := hide (HE8.out.step hb11); have HO11 := hide o11; obtain ⟨q0, q1, q2, q3, q4, q5, q6, q7⟩ := HBX.out _ HE11.out.box))
      clear HE8 HE12 hb11 o11
      obtain ⟨n13, hn13⟩ : ∃ m, m = n + 2 + dn := ⟨_, rfl⟩
      have h13 : 3 ≤ n13 ∧ n13 ≤ 2600 := by omega
      have E13 := HE13.out
      rw [← hn13] at E13 ⊢
      have HE13 := hide E13
      clear hn13 E13 hn8 hn0 HN2
      have HN3 := hide (fun w => l4Num_any bss 2 w (Or.inr (Or.inl rfl)) (by omega) (by omega))
      have HN4 := hide (fun w => l4Num_any rn 1 w (Or.inl rfl) (by omega) (by omega))
      go_wp2_with fail
      go_region_held3 (fun w' => w'.cell? ⟨w.heap.size, 4, none⟩ = some (.int .i64 bss) ∧ w'.cell? ⟨w.heap.size, 5, none⟩ = some (.slice ra rn rc)) (go_keep) (first
        | (refine step_ew HE16.out rfl _ _ rfl rfl ⟨w15.heap.size, 0, none⟩ 1 1 rfl (encN_len _ _) (encN_range _ _) (ob_cells HO16.out) (by omega) (by omega) ?_; intro g17 d17 w17 E17; have HE17 := hide E17; clear E17; obtain ⟨q0, q1, q2, q3, q4, q5, q6, q7⟩ := HBX.out _ HE17.out.box)
        | (refine step_ew HE14.out rfl _ _ rfl rfl ⟨w13.heap.size, 0, none⟩ 2 2 rfl (encN_len _ _) (encN_range _ _) (ob_cells HO14.out) (by omega) (by omega) ?_; intro g15 d15 w15 E15; have HE15 := hide E15; clear E15 HE14 HO14; obtain ⟨q0, q1, q2, q3, q4, q5, q6, q7⟩ := HBX.out _ HE15.out.box)
        | (go_simp; go_at_call 45; refine (HN4.out w15).mono ?_; rintro e w16 ⟨rfl, o16, hb16⟩; have HE16 := hide (HE15.out.step hb16); have HO16 := hide o16; obtain ⟨q0, q1, q2, q3, q4, q5, q6, q7⟩ := HBX.out _ HE16.out.box)
        | (go_simp; go_at_call 45; refine (HN3.out _).mono ?_; rintro e w14 ⟨rfl, o14, hb14⟩; replace hb14 := undrew hb14; have HE14 := hide (HE13.out.step hb14); have HO14 := hide o14; obtain ⟨q0, q1, q2, q3, q4, q5, q6, q7⟩ := HBX.out _ HE14.out.box))
      clear HE13 HE15 HE16 HO16 q0 q1 q2 q3 q4 q5 q6 q7 hb14 o14 hb16 o16
      obtain ⟨n17, hn17⟩ : ∃ m, m = n13 + 2 + 1 := ⟨_, rfl⟩
      have h17 : 3 ≤ n17 ∧ n17 ≤ 2610 := by omega
      have E17 := HE17.out
      rw [← hn17] at E17 ⊢
      rw [show enc1 nm tz bn ++ encBs bl bn ++ encN dn 2 ++ dz ++ encN bss 2 ++ encN rn 1 = enc2 nm tz bn bl dn dz bss rn from rfl] at E17
      clear hn17 HN3 HN4 HE17 h13
      go_wp2_with fail
      go_loopw [3, 5] (fun x i wr => ∃ (k q n c : Nat), k ≤ rn ∧ i = .int .i64 k ∧ x = .slice (some ⟨q, 0, none⟩) n c ∧ Ew w wr mc q n c (enc2 nm tz bn bl dn dz bss rn ++ encW 2 rz k) ∧ 3 ≤ n ∧ n ≤ 2610 + k * 2) (fun _ i _ => rn - (intOf i).toNat)
      case atStart => exact ⟨0, g17, n17, d17, Nat.zero_le _, rfl, rfl, by simpa [encW] using E17, by omega, by omega⟩
      case round =>
        obtain ⟨k, q, n, c, hk, rfl, rfl, E8, hn0, hn1⟩ := hrel
        clear E17 h17
        obtain ⟨q0, q1, q2, q3, q4, q5, q6, q7⟩ := HBX.out _ E8.box
        by_cases hlt : k < rn
        · have hlt' : (k : Int) < (rn : Int) := by omega
          have hr := h.r.below E8.below
          obtain ⟨rb, off, rfl⟩ := hr.addr (by omega)
          have hc := hr.at k hlt
          have hw := HV.out.rw k hlt
          have HS := hide (show enc2 nm tz bn bl dn dz bss rn ++ encW 2 rz (k + 1) = enc2 nm tz bn bl dn dz bss rn ++ encW 2 rz k ++ encN (rz.getD k 0) 2 by rw [encW_succ 2 rz k (by rw [h.r.1]; exact hlt), List.append_assoc])
          generalize enc2 nm tz bn bl dn dz bss rn ++ encW 2 rz k = out at *
          generalize rz.getD k 0 = z at *
          have HN5 := hide (fun w => l4Num_any z 2 w (Or.inr (Or.inl rfl)) (by omega) (by omega))
          go_wp2_with fail
          refine (HN5.out _).mono ?_
          rintro e w9 ⟨rfl, o9, hb9⟩
          have HE9 := hide (E8.step hb9)
          have HO9 := hide o9
          clear hb9 o9 E8 hr hc q0 q1 q2 q3 q4 q5 q6 q7 HN5
          go_wp2_with (at_builtin; refine list_ew HE9.out rfl _ _ rfl rfl ⟨wr.heap.size, 0, none⟩ 2 2 rfl (encN_len _ _) (encN_range _ _) (ob_cells HO9.out) (by omega) (by omega) ?_; intro g10 d10 w10 E10)
          rw [← HS.out] at E10
          have HX := hide E10
          clear E10 HE9 HO9
          go_roundw
          case rel => exact ⟨k + 1, g10, n + 2, d10, by omega, by go_num, rfl, HX.out, by omega, by omega⟩
          case measure => simp [intOf]; omega
        · obtain rfl : rn = k := by omega
          clear hlt hk q0 q1 q2 q3 q4 q7
          have HN6 := hide (fun w => l4Num_any im 1 w (Or.inl rfl) (by omega) (by omega))
          go_wp2_with fail
          refine (HN6.out _).mono ?_
          rintro e w18 ⟨rfl, o18, hb18⟩
          have HE18 := hide (E8.step hb18)
          have HO18 := hide o18
          clear hb18 o18 E8 q5 q6 HN6
          go_wp2_with (at_builtin; refine list_ew HE18.out rfl _ _ rfl rfl ⟨wr.heap.size, 0, none⟩ 1 1 rfl (encN_len _ _) (encN_range _ _) (ob_cells HO18.out) (by omega) (by omega) ?_; intro g19 d19 w19 E19)
          rw [show enc2 nm tz bn bl dn dz bss rn ++ encW 2 rz rn ++ encN im 1 = enc3 nm tz bn bl dn dz bss rn rz im from rfl] at E19
          clear HE18 HO18
          go_loopw [3, 6] (fun x i wr => ∃ (k q n c : Nat), k ≤ im ∧ i = .int .i64 k ∧ x = .slice (some ⟨q, 0, none⟩) n c ∧ Ew w wr mc q n c (enc3 nm tz bn bl dn dz bss rn rz im ++ encTs ss k) ∧ 3 ≤ n ∧ n ≤ 2700 + k * 26) (fun _ i _ => im - (intOf i).toNat)
          case atStart => exact ⟨0, g19, n + 1, d19, Nat.zero_le _, rfl, rfl, by simpa [encTs] using E19, by omega, by omega⟩
          case round =>
            obtain ⟨k, q, n, c, hk, rfl, rfl, E8, hn0, hn1⟩ := hrel
            clear E19
            obtain ⟨q0, q1, q2, q3, q4, q5, q6, q7⟩ := HBX.out _ E8.box
            by_cases hlt : k < im
            · have hlt' : (k : Int) < (im : Int) := by omega
              have hr := h.i.below E8.below
              obtain ⟨sb, off, rfl⟩ := hr.addr (by omega)
              have hc := hr.at k hlt
              have hw := HV.out.iw k hlt
              have HS := hide (show enc3 nm tz bn bl dn dz bss rn rz im ++ encTs ss (k + 1) = enc3 nm tz bn bl dn dz bss rn rz im ++ encTs ss k ++ encT (ss.getD k zS) by unfold encTs; rw [flat_succ _ ss zS k (by rw [h.i.1]; exact hlt), List.append_assoc])
              generalize enc3 nm tz bn bl dn dz bss rn rz im ++ encTs ss k = out at *
              generalize ss.getD k zS = z at *
              have HT5 := hide (fun w => HTX.out z w hw)
              obtain ⟨m5, hm5⟩ : ∃ m, m = (encT z).length := ⟨_, rfl⟩
              have hm5' : 1 ≤ m5 ∧ m5 ≤ 26 := by rw [hm5, encT_len]; omega
              unfold EnPost at HT5
              rw [← hm5] at HT5
              have HM5 := hide hm5
              clear hm5 hw
              go_wp2_with fail
              refine (HT5.out _).mono ?_
              rintro e w9 ⟨g9, d9, rfl, o9, hb9⟩
              have HE9 := hide (E8.step hb9)
              have HO9 := hide o9
              clear hb9 o9 E8 hr hc q0 q1 q2 q3 q4 q5 q6 q7 HT5
              go_wp2_with (at_builtin; refine list_ew HE9.out rfl _ _ rfl rfl ⟨g9, 0, none⟩ m5 d9 rfl HM5.out.symm HO9.out.2 (ob_cells HO9.out) (by omega) (by omega) ?_; intro g10 d10 w10 E10)
              rw [← HS.out] at E10
              have HX := hide E10
              clear E10 HE9 HO9
              go_roundw
              case rel => exact ⟨k + 1, g10, n + m5, d10, by omega, by go_num, rfl, HX.out, by omega, by omega⟩
              case measure => simp [intOf]; omega
            · obtain rfl : im = k := by omega
              clear hlt hk q0 q1 q2 q3 q4 q5
              have HN6 := hide (fun w => l4Num_any en 1 w (Or.inl rfl) (by omega) (by omega))
              go_wp2_with fail
              refine (HN6.out _).mono ?_
              rintro e w18 ⟨rfl, o18, hb18⟩
              have HE18 := hide (E8.step hb18)
              have HO18 := hide o18
              clear hb18 o18 E8 q6 q7 HN6
              go_wp2_with (at_builtin; refine list_ew HE18.out rfl _ _ rfl rfl ⟨wr.heap.size, 0, none⟩ 1 1 rfl (encN_len _ _) (encN_range _ _) (ob_cells HO18.out) (by omega) (by omega) ?_; intro g19 d19 w19 E19)
              rw [show enc3 nm tz bn bl dn dz bss rn rz im ++ encTs ss im ++ encN en 1 = enc4 nm tz bn bl dn dz bss rn rz im ss en from rfl] at E19
              clear HE18 HO18
              go_loopw [3, 7] (fun x i wr => ∃ (k q n c : Nat), k ≤ en ∧ i = .int .i64 k ∧ x = .slice (some ⟨q, 0, none⟩) n c ∧ Ew w wr mc q n c (enc4 nm tz bn bl dn dz bss rn rz im ss en ++ encXs es k) ∧ 3 ≤ n ∧ n ≤ 3300 + k * 16) (fun _ i _ => en - (intOf i).toNat)
              case atStart => exact ⟨0, g19, n + 1, d19, Nat.zero_le _, rfl, rfl, by simpa [encXs] using E19, by omega, by omega⟩
              case round =>
                obtain ⟨k, q, n, c, hk, rfl, rfl, E8, hn0, hn1⟩ := hrel
                clear E19
                obtain ⟨q0, q1, q2, q3, q4, q5, q6, q7⟩ := HBX.out _ E8.box
                by_cases hlt : k < en
                · have hlt' : (k : Int) < (en : Int) := by omega
                  have hr := h.e.below E8.below
                  obtain ⟨eb, off, rfl⟩ := hr.addr (by omega)
                  obtain ⟨c0, c1, c2⟩ := hr.at k hlt
                  have hw := HV.out.ew k hlt
                  have HS := hide (show enc4 nm tz bn bl dn dz bss rn rz im ss en ++ encXs es (k + 1) = enc4 nm tz bn bl dn dz bss rn rz im ss en ++ encXs es k ++ encX (es.getD k zE) by unfold encXs; rw [flat_succ _ es zE k (by rw [h.e.1]; exact hlt), List.append_assoc])
                  generalize enc4 nm tz bn bl dn dz bss rn rz im ss en ++ encXs es k = out at *
                  generalize es.getD k zE = z at *
                  obtain ⟨xn, xb, xa⟩ := z
                  dsimp only at c0 c1 c2 hw HS
                  obtain ⟨hw1, hw2, hw3, hw4, hw5⟩ := hw
                  have HT5 := hide (fun w => HTX.out xn w (by omega))
                  obtain ⟨m5, hm5⟩ : ∃ m, m = (encT xn).length := ⟨_, rfl⟩
                  have hm5' : 1 ≤ m5 ∧ m5 ≤ 13 := by rw [hm5, encT_len]; omega
                  unfold EnPost at HT5
                  rw [← hm5] at HT5
                  have HM5 := hide hm5
                  have HN7 := hide (fun (v : Int) (hv : v = xb + 1) w => (show Calls Try.prog 45 #[.int .i64 v, .int .i64 1] w fun e w' => e = .returned (.slice (some ⟨w.heap.size, 0, none⟩) 1 1) ∧ OB w' w.heap.size (.slice (some ⟨w.heap.size, 0, none⟩) 1 1) (encN (xb + 1) 1) ∧ Below w.heap.size w w' by rw [hv]; exact l4Num_any (xb + 1) 1 w (Or.inl rfl) (by omega) (by omega)))
                  have HN8 := hide (fun w => l4Num_any xa 2 w (Or.inr (Or.inl rfl)) (by omega) (by omega))
                  have HEW := hide (show IntKind.i64.wrap (xb + 1) = xb + 1 from wraps62 _ (by omega) (by omega))
                  have al : Below wr.heap.size wr (wr.alloc (.cells #[.string xn, .int .i64 xb, .int .i64 xa] 58)) := (Below.refl _ _).alloc (Nat.le_refl _) _
                  have HP9 := hide (E8.step al)
                  have HKX := hide (Blk.new wr #[.string xn, .int .i64 xb, .int .i64 xa] 58)
                  obtain ⟨x0, x1, x2, x3⟩ := HKX.out.three
                  clear hm5 hr E8 al q0 q1 q2 q3 q4 q5 q6
                  go_wp2_with fail
                  have hnn : n ≤ 3600 := by omega
                  clear c0 c1 c2 q7 v1 v2 v3 v4 v5 v6 v7 hw1 hw2 hw3 hw4 hw5
                  go_region_held3 (fun w' => w'.cell? ⟨wr.heap.size, 0, none⟩ = some (.string xn) ∧ w'.cell? ⟨wr.heap.size, 1, none⟩ = some (.int .i64 xb) ∧ w'.cell? ⟨wr.heap.size, 2, none⟩ = some (.int .i64 xa)) (go_keep) (first
                    | (have hx := HP14; clear hx; refine step_ewk HP14.out rfl _ _ rfl rfl ⟨wq13.heap.size, 0, none⟩ 2 2 rfl (encN_len _ _) (encN_range _ _) (ob_cells HQ14.out) (by omega) (by omega) ?_; intro g15 d15 wq15 E15 kp; have HP15 := hide E15; have HK15 := hide (kp _ _ _ (by decide) HK14.out); clear E15 kp HP14 HQ14 HK14; obtain ⟨x0, x1, x2, x3⟩ := HK15.out.three)
                    | (have hx := HP12; clear hx; refine step_ewk HP12.out rfl _ _ rfl rfl ⟨wq11.heap.size, 0, none⟩ 1 1 rfl (encN_len _ _) (encN_range _ _) (ob_cells HQ12.out) (by omega) (by omega) ?_; intro g13 d13 wq13 E13 kp; have HP13 := hide E13; have HK13 := hide (kp _ _ _ (by decide) HK12.out); clear E13 kp HP12 HQ12 HK12; obtain ⟨x0, x1, x2, x3⟩ := HK13.out.three)
                    | (have hx := HP10; clear hx; refine step_ewk HP10.out rfl _ _ rfl rfl ⟨g10, 0, none⟩ m5 d10 rfl HM5.out.symm HQ10.out.2 (ob_cells HQ10.out) (by omega) (by omega) ?_; intro g11 d11 wq11 E11 kp; have HP11 := hide E11; have HK11 := hide (kp _ _ _ (by decide) HK10.out); clear E11 kp HP10 HQ10 HK10; obtain ⟨x0, x1, x2, x3⟩ := HK11.out.three)
                    | (have hx := HP13; clear hx; go_simp; go_at_call 45; refine (HN8.out wq13).mono ?_; rintro e wq14 ⟨rfl, o14, hb14⟩; have HP14 := hide (HP13.out.step hb14); clear HP13; have HQ14 := hide o14; have HK14 := hide (HK13.out.below hb14); obtain ⟨x0, x1, x2, x3⟩ := HK14.out.three)
                    | (have hx := HP11; clear hx; go_at_call 45; refine (HN7.out _ HEW.out wq11).mono ?_; rintro e wq12 ⟨rfl, o12, hb12⟩; have HP12 := hide (HP11.out.step hb12); clear HP11; have HQ12 := hide o12; have HK12 := hide (HK11.out.below hb12); obtain ⟨x0, x1, x2, x3⟩ := HK12.out.three)
                    | (have hx := HP9; clear hx; go_simp; go_at_call 43; refine (HT5.out _).mono ?_; rintro e wq10 ⟨g10, d10, rfl, o10, hb10⟩; replace hb10 := undrew hb10; have HP10 := hide (HP9.out.step hb10); clear HP9; have HQ10 := hide o10; have HK10 := hide (HKX.out.below hb10); obtain ⟨x0, x1, x2, x3⟩ := HK10.out.three))
                  have E15 := HP15.out
                  rw [show out ++ encT xn ++ encN (xb + 1) 1 ++ encN xa 2 = out ++ encX (xn, xb, xa) by unfold encX; simp [List.append_assoc], ← HS.out] at E15
                  have HX := hide E15
                  clear E15 HP15 HK11 HK13 HK15 HKX x0 x1 x2 x3 HN7 HN8 HT5 hb10 hb12 hb14 o10 o12 o14
                  go_wp2
                  go_roundw
                  case rel => exact ⟨k + 1, g15, n + m5 + 1 + 2, d15, by omega, by go_num, rfl, HX.out, by omega, by omega⟩
                  case measure => simp [intOf]; omega
                · obtain rfl : en = k := by omega
                  have HX := hide E8
                  have hle := E8.len
                  have HLE := hide hle
                  clear hle E8 hlt hk q0 q1 q2 q3 q4 q5 q6
                  go_wp2
                  go_ret
                  exact ⟨some ⟨q, 0, none⟩, n, c, rfl, HX.out.o.mono (by omega), HX.out.below, HX.out.small⟩
end Go.Proofs.Ytngdgogjlpjjpad
