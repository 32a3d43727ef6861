import Derived.Test.YtaillnegkfagfacGreatJ40
import Derived.Test.YtaillnegkfagfacGreatJ41
namespace Go.Proofs.YtaillnegkfagfacGreat
open Go.RowKit
set_option linter.unusedVariables false
set_option linter.unusedSimpArgs false
set_option maxRecDepth 100000

def ds3 (K : Int) : List Rg := [(0, 5, 0, false, false, true), (65536, 5, 0, true, true, false), (131072, 5, 0, (K % 16 == 3), true, false)]
def ds2 : List Rg := [(0, 14, 0, true, true, true), (65536, 14, 0, true, true, false)]
def dsF (K pc v : Int) (F : List Int) : List Int := if pc + 4 ≤ (F.length : Int) ∧ 0 < K % 8 then put F pc.toNat v 4 else F
def dsR (K : Int) (G : Rg) : List Rg := if K % 8 = 7 then ds3 K ++ [G] else if K % 16 = 6 then ds2 else ds3 K
theorem ds3_wf (K : Int) : ∀ g ∈ ds3 K, wfi g.1 ∧ wfi g.2.1 ∧ wfi g.2.2.1 := by
  intro g hg
  simp [ds3] at hg
  rcases hg with rfl | rfl | rfl <;> (unfold wfi; simp)
theorem ds2_wf : ∀ g ∈ ds2, wfi g.1 ∧ wfi g.2.1 ∧ wfi g.2.2.1 := by
  intro g hg
  simp [ds2] at hg
  rcases hg with rfl | rfl <;> (unfold wfi; simp)
/-- a region, as a function of the code -/
def RegIs (zs : List Int) (k : Nat) (G : Rg) : Prop := ∃ k', ∀ (r : Nat) (a : Option Addr) (n c : Nat) (w : World) (h : Rdr w r a n c zs k) (hcode : n ≠ 0 → ∀ b off, a = some ⟨b, off, none⟩ → b < w.heap.size), Calls Tryz.prog 14 #[.pointer (some ⟨r, 0, none⟩)] w (DrQ w r a n c zs G.1 G.2.1 G.2.2.1 G.2.2.2.1 G.2.2.2.2.1 G.2.2.2.2.2 k')
theorem l2Region_is (zs : List Int) (k : Nat) (hz : ∀ j, 0 ≤ zs.getD j 0 ∧ zs.getD j 0 ≤ 255) : ∃ G : Rg, (wfi G.1 ∧ wfi G.2.1 ∧ wfi G.2.2.1) ∧ RegIs zs k G := by
  obtain ⟨g1, g2, g3, g4, g5, g6, k', hw, hc⟩ := l2Region_fn zs k hz
  exact ⟨(g1, g2, g3, g4, g5, g6), hw, k', hc⟩

set_option maxHeartbeats 8000000 in
theorem drawStep_at (zs0 zs : List Int) (hzs : zs0.take 1000 = zs) (K pc v : Int) (xs F R O : List Int) (kv : Nat) (G : Rg) (E0 : Hid (zs.getD 0 0 = K)) (z0 : 0 ≤ K) (z0' : K ≤ 255) (HP : Hid (dcP (zs.getD 1 0) = pc)) (p0 : 0 ≤ pc) (p1 : pc ≤ 100) (HX : Hid (dcR (zs.getD 1 0) (regL zs 2 8) = xs)) (x7 : 7 ≤ xs.length)
    (HV : Hid (RndFn zs 10 v kv)) (v0 : 0 ≤ v) (v1 : v ≤ 4294967295) (HF : Hid (mmF zs kv = F)) (HR : Hid (mmR zs kv = R)) (HO : Hid (mmO zs kv = O)) (f1 : F.length ≤ 20000) (HG : Hid (RegIs zs (kv + 1 + 2 * mmN (zs.getD kv 0)) G)) (HGW : Hid (wfi G.1 ∧ wfi G.2.1 ∧ wfi G.2.2.1))
    (a : Option Addr) (n c : Nat) (w : World) (h : BS w a n c zs0) :
    Calls Tryz.prog 4 #[.slice a n c] w (DsPost w pc xs (dsF K pc v F) R O (dsR K G)) := by
  obtain ⟨YF, hYF⟩ : ∃ Y, Y = dsF K pc v F := ⟨_, rfl⟩
  obtain ⟨YR, hYR⟩ : ∃ Y, Y = dsR K G := ⟨_, rfl⟩
  rw [← hYF, ← hYR]
  unfold dsF at hYF
  unfold dsR at hYR
  have HYF := hide hYF
  have HYR := hide hYR
  clear hYF hYR
  obtain ⟨ri, hri, hrz0, hrz1, hrz2⟩ := info_parts infoR
  have hB0 : Below w.heap.size w ((w.alloc (.cells #[.int .i64 0, .slice none 0 0] 25)).alloc (.cells #[.slice none 0 0, .slice none 0 0, .slice none 0 0] 27)) := ((Below.refl _ _).alloc (Nat.le_refl _) _).alloc (by simp) _
  have kc0 := (Blk.new w #[.int .i64 0, .slice none 0 0] 25).alloc (.cells #[.slice none 0 0, .slice none 0 0, .slice none 0 0] 27)
  have km0 := Blk.new (w.alloc (.cells #[.int .i64 0, .slice none 0 0] 25)) #[.slice none 0 0, .slice none 0 0, .slice none 0 0] 27
  simp only [World.size_alloc] at km0
  have h0 := h.below hB0
  have hcode : n ≠ 0 → ∀ b off, a = some ⟨b, off, none⟩ → b < w.heap.size := by
    intro hn b off e
    subst e
    exact World.block_lt_of_cell? w _ (h.at 0 (by omega))
  have HC := hide hcode
  clear h hcode
  obtain ⟨n', hn'⟩ : ∃ n', n' = min n 1000 := ⟨_, rfl⟩
  have HN := hide hn'
  go_enter Tryz.func4, Tryz.ntmps4
  go_wp2_with fail
  refine (l1Open_any a n c n' zs0 _ h0 hn').mono ?_
  rw [hzs]
  rintro e w1 ⟨rfl, hr1, hb1⟩
  have HCD := hide (fun (W : World) (hs : w.heap.size ≤ W.heap.size) => show n' ≠ 0 → ∀ b off, a = some ⟨b, off, none⟩ → b < W.heap.size from fun h0 b off e => by have := HN.out; have := HC.out (by omega) b off e; omega)
  clear hn' h0 hzs
  have hs1 := hb1.size
  have hl1 := hr1.blk.lt
  simp only [World.size_alloc] at hs1 hr1 hl1
  have hB1 := hB0.trans (hb1.mono (by simp; omega))
  have kc1 := kc0.below hb1
  have km1 := km0.below hb1
  clear hb1 hB0 kc0 km0
  go_wp2_with fail
  refine (next_is (w.heap.size + 1 + 1) a n' c zs 0 K _ hr1 E0).mono ?_
  rintro e w2 ⟨rfl, hr2, t2⟩
  have hs2 := t2.size
  have hB2 := below_turn hB1 t2 (fun j hj => by omega) (by omega)
  have kc2 := turn_blk t2 kc1 (by omega)
  have km2 := turn_blk t2 km1 (by omega)
  clear t2 hB1 kc1 km1 hr1
  go_wp2_with fail
  refine (l3DrawCore_any (w.heap.size + 1 + 1) a n' c zs 1 _ hr2 (HCD.out _ (by omega))).mono ?_
  rw [HP.out, HX.out]
  rintro e w3 ⟨g, d, rfl, I3, lg, hr3, t3⟩
  have hs3 := t3.size
  have hB3 := below_turn hB2 t3 (fun j hj => by omega) (by omega)
  have kc3 := turn_blk t3 kc2 (by omega)
  have km3 := turn_blk t3 km2 (by omega)
  have hg3 := World.block_lt_of_cell? w3 _ (I3.at 0 (by omega))
  clear t3 hB2 kc2 km2 hr2
  have al3 : Below w3.heap.size w3 (w3.alloc (.cells #[.int .i64 pc, .slice (some ⟨g, 0, none⟩) xs.length d] 25)) := (Below.refl _ _).alloc (Nat.le_refl _) _
  have bc3 := Blk.new w3 #[.int .i64 pc, .slice (some ⟨g, 0, none⟩) xs.length d] 25
  have hB3 := hB3.trans (al3.mono (by omega))
  have kc3 := kc3.below al3
  have km3 := km3.below al3
  have I3 := I3.below al3
  have hr3 := rdr_below hr3 al3
  clear al3
  go_wp2_with fail
  refine (HV.out (w.heap.size + 1 + 1) a n' c _ hr3 (HCD.out _ (by simp; omega))).mono ?_
  rintro e w4 ⟨rfl, hr4, t4⟩
  have hs4 := t4.size
  simp only [World.size_alloc] at hs4
  have hB4 := below_turn hB3 t4 (fun j hj => by omega) (by simp; omega)
  have kc4 := turn_blk t4 kc3 (by omega)
  have km4 := turn_blk t4 km3 (by omega)
  have bc4 := turn_blk t4 bc3 (by omega)
  have I4 := turn_is t4 I3 (fun k hk b off e => by injection e with e; injection e with e; omega)
  clear t4 hB3 kc3 km3 bc3 I3 hr3 HV
  go_wp2_with fail
  refine (l1Mem_any (w.heap.size + 1 + 1) a n' c zs kv _ hr4 (HCD.out _ (by omega))).mono ?_
  rw [HF.out, HR.out, HO.out]
  rintro e w5 ⟨b1, d1, b2, d2, b3, d3, rfl, B1, B2, B3, l1, l2, l3, ⟨ob, n12, n13, b2l, b3l⟩, hr5, t5⟩
  have hs5 := t5.size
  have lb1 := (ob.lt b1 rfl).2
  have al5 : Below w5.heap.size w5 (w5.alloc (.cells #[.slice (some ⟨b1, 0, none⟩) F.length d1, .slice (some ⟨b2, 0, none⟩) R.length d2, .slice (some ⟨b3, 0, none⟩) O.length d3] 27)) := (Below.refl _ _).alloc (Nat.le_refl _) _
  have bm5 := Blk.new w5 #[.slice (some ⟨b1, 0, none⟩) F.length d1, .slice (some ⟨b2, 0, none⟩) R.length d2, .slice (some ⟨b3, 0, none⟩) O.length d3] 27
  obtain ⟨V5, hV5⟩ : ∃ V5, V5 = w5.alloc (.cells #[.slice (some ⟨b1, 0, none⟩) F.length d1, .slice (some ⟨b2, 0, none⟩) R.length d2, .slice (some ⟨b3, 0, none⟩) O.length d3] 27) := ⟨_, rfl⟩
  have hs5' : V5.heap.size = w5.heap.size + 1 := by rw [hV5]; simp
  rw [← hV5] at al5 bm5
  have D5 : Dw w V5 w3.heap.size w5.heap.size g d b1 d1 b2 d2 b3 d3 pc xs F R O :=
    ⟨(below_turn hB4 t5 (fun j hj => by omega) (by omega)).trans (al5.mono (by omega)), (turn_blk t5 kc4 (by omega)).below al5, (turn_blk t5 km4 (by omega)).below al5, (turn_blk t5 bc4 (by omega)).below al5, bm5, (turn_is t5 I4 (fun k hk b off e => by injection e with e; injection e with e; omega)).below al5, B1.below al5, B2.below al5, B3.below al5, by omega, by omega, by omega, by omega, by omega, by omega⟩
  have hr5 := rdr_below hr5 al5
  have ob := ob.below al5
  have HW5 := hide hV5
  clear hV5
  clear t5 hB4 kc4 km4 bc4 I4 hr4 al5 bm5 B1 B2 B3
  obtain ⟨u1, u2, u3⟩ := D5.bc.two
  obtain ⟨s1, s2, s3, s4⟩ := D5.bm.three
  by_cases hput : pc + 4 ≤ (F.length : Int) ∧ 0 < K % 8
  · obtain ⟨hput, hk8⟩ := hput
    have HF6 := hide (show YF = put F pc.toNat v 4 from by rw [HYF.out, if_pos ⟨hput, hk8⟩])
    have ep : ((pc.toNat : Nat) : Int) = pc := by omega
    have hcp := hide (l1Put_big b1 F.length d1 pc.toNat 4 v V5 (ob_room ob) (by omega) (by omega) (by omega) (by omega) v0 v1)
    rw [ep] at hcp
    clear ep
    go_wp2_with (rw [← HW5.out])
    refine hcp.out.mono ?_
    clear hcp
    rintro e w6 ⟨rfl, hw6⟩
    have on6 : Only b1 V5 w6 := by rw [hw6]; exact only_put b1 pc.toNat v _ 4
    have ob6 : OB w6 w4.heap.size (.slice (some ⟨b1, 0, none⟩) F.length d1) (put F pc.toNat v 4) := by rw [hw6]; exact ob_put ob pc.toNat v 4 (by omega)
    clear hw6 ob u1 u2 u3 s1 s2 s3 s4
    have hs6 : w6.heap.size = w5.heap.size + 1 := by rw [on6.1]; exact hs5'
    have hr6 := rdr_turn hr5 (only_turn on6) (by omega) (fun h0 k hk b off e => by have := HCD.out w (Nat.le_refl _) h0 b off e; omega)
    have B16 := ob6.bs
    have FL := put_len F pc.toNat v 4
    have D6 : Dw w w6 w3.heap.size w5.heap.size g d b1 d1 b2 d2 b3 d3 pc xs (put F pc.toNat v 4) R O := by
      have T := only_turn on6
      refine ⟨only_below D5.below on6 (by omega), only_blk on6 D5.kc (by omega), only_blk on6 D5.km (by omega), only_blk on6 D5.bc (by omega), ?_, turn_is T D5.i (fun k hk b off e => by injection e with e; injection e with e; omega), by rw [FL]; exact B16, turn_bs T D5.r (fun k hk b off e => by injection e with e; injection e with e; omega), turn_bs T D5.o (fun k hk b off e => by injection e with e; injection e with e; omega), D5.hg, D5.h1, D5.h2, D5.h3, D5.hC, D5.hM⟩
      rw [FL]
      exact only_blk on6 D5.bm (by omega)
    clear on6 ob6 B16 D5 hr5
    rw [← HF6.out] at D6 FL
    clear HF6
    rw [← FL]
    have DD := hide D6
    have RD := hide hr6
    clear D6 hr6 FL
    have DDL := hide (show w.heap.size + 1 < w6.heap.size ∧ w6.heap.size ≠ w3.heap.size ∧ w6.heap.size ≠ w5.heap.size ∧ w6.heap.size ≠ g ∧ w6.heap.size ≠ b1 ∧ w6.heap.size ≠ b2 ∧ w6.heap.size ≠ b3 from by
      have := b2l
      have := b3l
      omega)
    have hs6a : w.heap.size + 1 + 1 < w6.heap.size := by omega
    have HS6 := hide hs6
    clear hs6
    by_cases c7 : K % 8 = 7
    · have g7 : (K % 8 == 7) = true := by simpa using c7
      have g6 : (K % 16 == 6) = false := by simp; omega
      have HRS := hide (show YR = ds3 K ++ [G] from by rw [HYR.out, if_pos c7])
      clear c7
      have al8 : Below w6.heap.size w6 (w6.alloc (.cells #[.int .i64 0, .int .i64 5, .int .i64 0, .bool false, .bool false, .bool true, .int .i64 65536, .int .i64 5, .int .i64 0, .bool true, .bool true, .bool false, .int .i64 131072, .int .i64 5, .int .i64 0, .bool (K % 16 == 3), .bool true, .bool false] 43)) := (Below.refl _ _).alloc (Nat.le_refl _) _
      have O8 := or_lit w6 (ds3 K) #[.int .i64 0, .int .i64 5, .int .i64 0, .bool false, .bool false, .bool true, .int .i64 65536, .int .i64 5, .int .i64 0, .bool true, .bool true, .bool false, .int .i64 131072, .int .i64 5, .int .i64 0, .bool (K % 16 == 3), .bool true, .bool false] rfl (ds3_wf K) (show 3 ≤ 20 by omega)
      have D8 := DD.out.step al8
      have hr8 := rdr_below RD.out al8
      have hsz := DD.out.below.size
      clear al8 DD RD
      obtain ⟨kq, hq⟩ := HG.out
      go_wp2_with fail
      refine (hq (w.heap.size + 1 + 1) a n' c _ hr8 (HCD.out _ (by simp; omega))).mono ?_
      clear hq HG
      rintro e w7 ⟨rfl, hr7, t7⟩
      have hs7 := t7.size
      simp only [World.size_alloc] at hs7
      have D7 := D8.turn t7 (fun k hk => by subst hk; omega)
      have O7 := turn_or t7 O8 (fun k hk e => by subst e; omega)
      clear D8 O8 hr8 t7
      obtain ⟨r1, r2, r3, r4, r5, r6⟩ := G
      have al7 : Below w7.heap.size w7 (w7.alloc (.cells #[.int .i64 r1, .int .i64 r2, .int .i64 r3, .bool r4, .bool r5, .bool r6] 43)) := (Below.refl _ _).alloc (Nat.le_refl _) _
      have HOWN := hide (O7.1.alloc (.cells #[.int .i64 r1, .int .i64 r2, .int .i64 r3, .bool r4, .bool r5, .bool r6] 43))
      have HNEWS := hide (news6 w7 (r1, r2, r3, r4, r5, r6))
      have HONE := hide (one6 (r1, r2, r3, r4, r5, r6))
      have HLEN := hide (show (cells6 (r1, r2, r3, r4, r5, r6)).length = 1 * 6 from rfl)
      have HO7 := hide O7
      have HD7 := hide (D7.step al7)
      clear al7 O7 D7
      go_wp2_with (at_builtin; refine wpList_append_own _ rfl _ _ 28 rfl w6.heap.size 43 ri (.agg #[.int .i64 0, .int .i64 0, .int .i64 0, .bool false, .bool false, .bool false]) 6 32 Tryz.underlying28 hri hrz0 hrz1 hrz2 rfl (by decide) (.slice (some ⟨w6.heap.size, 0, none⟩) 3 3) 3 (flat (ds3 K)) rfl HOWN.out ⟨w7.heap.size, 0, none⟩ 1 1 (cells6 (r1, r2, r3, r4, r5, r6)) rfl HLEN.out HNEWS.out HONE.out (by unfold maxLen; omega) (by omega) (by simp; omega) ?_; intro v' w9 hown3 hgr3 _)
      obtain ⟨A', cap', he⟩ := or_shape hown3
      subst he
      have O9 : OR w9 w6.heap.size (.slice A' 4 cap') (ds3 K ++ [(r1, r2, r3, r4, r5, r6)]) := or_more (W := w7) (v := .slice (some ⟨w6.heap.size, 0, none⟩) 3 3) (g := (r1, r2, r3, r4, r5, r6)) HO7.out.2 HGW.out hown3
      have D9 := HD7.out.turn (grown_turn hgr3) (fun k hk => by have e' : some w6.heap.size = some k := hk; injection e' with e'; have := DDL.out; omega)
      obtain ⟨q9, rfl⟩ := or_addr O9 (by simp)
      have lq := (O9.1.lt q9 rfl).1
      have R9 := or_rs O9
      clear hown3 hgr3 HO7 HD7 HOWN HNEWS HONE HLEN O9
      obtain ⟨u1, u2, u3⟩ := D9.bc.two
      obtain ⟨s1, s2, s3, s4⟩ := D9.bm.three
      obtain ⟨y1, y2, y3⟩ := D9.kc.two
      obtain ⟨x1', x2', x3', x4'⟩ := D9.km.three
      have nA : w3.heap.size ≠ w.heap.size := by omega
      have nA' := nA.symm
      have nB : w3.heap.size ≠ w.heap.size + 1 := by omega
      have nB' := nB.symm
      have nC : w5.heap.size ≠ w.heap.size := by omega
      have nC' := nC.symm
      have nD : w5.heap.size ≠ w.heap.size + 1 := by omega
      have nD' := nD.symm
      obtain ⟨fA, ya0, ya1, ya2, ya3, ya4⟩ := D9.fin R9 (by omega) (Or.inl rfl)
      obtain ⟨fB, yb0, yb1, yb2, yb3, yb4⟩ := D9.fin R9 (by omega) (Or.inr rfl)
      simp only [setC, setM] at fA ya0 ya1 ya2 ya3 ya4 fB yb0 yb1 yb2 yb3 yb4
      have FA := hide fA
      have FB := hide fB
      clear fA fB D9 R9
      go_wp2_with fail
      go_region
      all_goals
        go_wp2
        exact bodyPost_ret (v := .tuple #[.agg #[.int .i64 pc, .slice (some ⟨g, 0, none⟩) xs.length d], .agg #[.slice (some ⟨b1, 0, none⟩) YF.length d1, .slice (some ⟨b2, 0, none⟩) R.length d2, .slice (some ⟨b3, 0, none⟩) O.length d3], .slice (some ⟨q9, 0, none⟩) 4 cap']) (by first | (simp [results, Tryz.results4, go_sem, ya0, ya1, ya2, ya3, ya4]; done) | (simp [results, Tryz.results4, go_sem, yb0, yb1, yb2, yb3, yb4]; done)) rfl
          (by rw [HRS.out]; exact ⟨g, d, b1, d1, b2, d2, b3, d3, _, _, rfl, by first | exact FA.out | exact FB.out⟩)
    · have g7 : (K % 8 == 7) = false := by simpa using c7
      by_cases c6 : K % 16 = 6
      · have g6 : (K % 16 == 6) = true := by simpa using c6
        have HRS := hide (show YR = ds2 from by rw [HYR.out, if_neg c7, if_pos c6])
        clear c7 c6
        skip
        have D9 := (DD.out.step ((Below.refl _ _).alloc (Nat.le_refl _) (.cells #[.int .i64 0, .int .i64 5, .int .i64 0, .bool false, .bool false, .bool true, .int .i64 65536, .int .i64 5, .int .i64 0, .bool true, .bool true, .bool false, .int .i64 131072, .int .i64 5, .int .i64 0, .bool (K % 16 == 3), .bool true, .bool false] 43))).step ((Below.refl _ _).alloc (Nat.le_refl _) (.cells #[.int .i64 0, .int .i64 14, .int .i64 0, .bool true, .bool true, .bool true, .int .i64 65536, .int .i64 14, .int .i64 0, .bool true, .bool true, .bool false] 43))
        have O9 := or_lit (w6.alloc (.cells #[.int .i64 0, .int .i64 5, .int .i64 0, .bool false, .bool false, .bool true, .int .i64 65536, .int .i64 5, .int .i64 0, .bool true, .bool true, .bool false, .int .i64 131072, .int .i64 5, .int .i64 0, .bool (K % 16 == 3), .bool true, .bool false] 43)) ds2 #[.int .i64 0, .int .i64 14, .int .i64 0, .bool true, .bool true, .bool true, .int .i64 65536, .int .i64 14, .int .i64 0, .bool true, .bool true, .bool false] rfl ds2_wf (show 2 ≤ 20 by omega)
        simp only [World.size_alloc] at O9
        have R9 := or_rs O9
        clear DD RD O9
        go_wp2_with fail
        obtain ⟨u1, u2, u3⟩ := D9.bc.two
        obtain ⟨s1, s2, s3, s4⟩ := D9.bm.three
        obtain ⟨y1, y2, y3⟩ := D9.kc.two
        obtain ⟨x1', x2', x3', x4'⟩ := D9.km.three
        have nA : w3.heap.size ≠ w.heap.size := by omega
        have nA' := nA.symm
        have nB : w3.heap.size ≠ w.heap.size + 1 := by omega
        have nB' := nB.symm
        have nC : w5.heap.size ≠ w.heap.size := by omega
        have nC' := nC.symm
        have nD : w5.heap.size ≠ w.heap.size + 1 := by omega
        have nD' := nD.symm
        obtain ⟨fA, ya0, ya1, ya2, ya3, ya4⟩ := D9.fin R9 (by omega) (Or.inl rfl)
        obtain ⟨fB, yb0, yb1, yb2, yb3, yb4⟩ := D9.fin R9 (by omega) (Or.inr rfl)
        simp only [setC, setM] at fA ya0 ya1 ya2 ya3 ya4 fB yb0 yb1 yb2 yb3 yb4
        have FA := hide fA
        have FB := hide fB
        clear fA fB D9 R9
        go_region
        all_goals
          go_wp2
          exact bodyPost_ret (v := .tuple #[.agg #[.int .i64 pc, .slice (some ⟨g, 0, none⟩) xs.length d], .agg #[.slice (some ⟨b1, 0, none⟩) YF.length d1, .slice (some ⟨b2, 0, none⟩) R.length d2, .slice (some ⟨b3, 0, none⟩) O.length d3], .slice (some ⟨w6.heap.size + 1, 0, none⟩) 2 2]) (by first | (simp [results, Tryz.results4, go_sem, ya0, ya1, ya2, ya3, ya4]; done) | (simp [results, Tryz.results4, go_sem, yb0, yb1, yb2, yb3, yb4]; done)) rfl
            (by rw [HRS.out]; exact ⟨g, d, b1, d1, b2, d2, b3, d3, _, _, rfl, by first | exact FA.out | exact FB.out⟩)
      · have g6 : (K % 16 == 6) = false := by simpa using c6
        have HRS := hide (show YR = ds3 K from by rw [HYR.out, if_neg c7, if_neg c6])
        clear c7 c6
        skip
        have D9 := DD.out.step ((Below.refl _ _).alloc (Nat.le_refl _) (.cells #[.int .i64 0, .int .i64 5, .int .i64 0, .bool false, .bool false, .bool true, .int .i64 65536, .int .i64 5, .int .i64 0, .bool true, .bool true, .bool false, .int .i64 131072, .int .i64 5, .int .i64 0, .bool (K % 16 == 3), .bool true, .bool false] 43))
        have R9 := or_rs (or_lit w6 (ds3 K) #[.int .i64 0, .int .i64 5, .int .i64 0, .bool false, .bool false, .bool true, .int .i64 65536, .int .i64 5, .int .i64 0, .bool true, .bool true, .bool false, .int .i64 131072, .int .i64 5, .int .i64 0, .bool (K % 16 == 3), .bool true, .bool false] rfl (ds3_wf K) (show 3 ≤ 20 by omega))
        skip
        clear DD RD
        go_wp2_with fail
        obtain ⟨u1, u2, u3⟩ := D9.bc.two
        obtain ⟨s1, s2, s3, s4⟩ := D9.bm.three
        obtain ⟨y1, y2, y3⟩ := D9.kc.two
        obtain ⟨x1', x2', x3', x4'⟩ := D9.km.three
        have nA : w3.heap.size ≠ w.heap.size := by omega
        have nA' := nA.symm
        have nB : w3.heap.size ≠ w.heap.size + 1 := by omega
        have nB' := nB.symm
        have nC : w5.heap.size ≠ w.heap.size := by omega
        have nC' := nC.symm
        have nD : w5.heap.size ≠ w.heap.size + 1 := by omega
        have nD' := nD.symm
        obtain ⟨fA, ya0, ya1, ya2, ya3, ya4⟩ := D9.fin R9 (by omega) (Or.inl rfl)
        obtain ⟨fB, yb0, yb1, yb2, yb3, yb4⟩ := D9.fin R9 (by omega) (Or.inr rfl)
        simp only [setC, setM] at fA ya0 ya1 ya2 ya3 ya4 fB yb0 yb1 yb2 yb3 yb4
        have FA := hide fA
        have FB := hide fB
        clear fA fB D9 R9
        go_region
        all_goals
          go_wp2
          exact bodyPost_ret (v := .tuple #[.agg #[.int .i64 pc, .slice (some ⟨g, 0, none⟩) xs.length d], .agg #[.slice (some ⟨b1, 0, none⟩) YF.length d1, .slice (some ⟨b2, 0, none⟩) R.length d2, .slice (some ⟨b3, 0, none⟩) O.length d3], .slice (some ⟨w6.heap.size, 0, none⟩) 3 3]) (by first | (simp [results, Tryz.results4, go_sem, ya0, ya1, ya2, ya3, ya4]; done) | (simp [results, Tryz.results4, go_sem, yb0, yb1, yb2, yb3, yb4]; done)) rfl
            (by rw [HRS.out]; exact ⟨g, d, b1, d1, b2, d2, b3, d3, _, _, rfl, by first | exact FA.out | exact FB.out⟩)
  · have e6 : YF = F := by rw [HYF.out, if_neg hput]
    have hA : ¬ pc + 4 ≤ (F.length : Int) ∨ (pc + 4 ≤ (F.length : Int) ∧ ¬ 0 < K % 8) := by omega
    clear hput HYF
    subst e6
    obtain ⟨w6, hw6⟩ : ∃ w6, w6 = V5 := ⟨_, rfl⟩
    subst hw6
    have hs6 := hs5'
    have DD := hide D5
    have RD := hide hr5
    clear D5 hr5 ob hs5'
    rcases hA with hA | ⟨hA, hB⟩
    all_goals
      have DDL := hide (show w.heap.size + 1 < w6.heap.size ∧ w6.heap.size ≠ w3.heap.size ∧ w6.heap.size ≠ w5.heap.size ∧ w6.heap.size ≠ g ∧ w6.heap.size ≠ b1 ∧ w6.heap.size ≠ b2 ∧ w6.heap.size ≠ b3 from by
        have := b2l
        have := b3l
        omega)
      have hs6a : w.heap.size + 1 + 1 < w6.heap.size := by omega
      have HS6 := hide hs6
      clear hs6
      by_cases c7 : K % 8 = 7
      · have g7 : (K % 8 == 7) = true := by simpa using c7
        have g6 : (K % 16 == 6) = false := by simp; omega
        have HRS := hide (show YR = ds3 K ++ [G] from by rw [HYR.out, if_pos c7])
        clear c7
        have al8 : Below w6.heap.size w6 (w6.alloc (.cells #[.int .i64 0, .int .i64 5, .int .i64 0, .bool false, .bool false, .bool true, .int .i64 65536, .int .i64 5, .int .i64 0, .bool true, .bool true, .bool false, .int .i64 131072, .int .i64 5, .int .i64 0, .bool (K % 16 == 3), .bool true, .bool false] 43)) := (Below.refl _ _).alloc (Nat.le_refl _) _
        have O8 := or_lit w6 (ds3 K) #[.int .i64 0, .int .i64 5, .int .i64 0, .bool false, .bool false, .bool true, .int .i64 65536, .int .i64 5, .int .i64 0, .bool true, .bool true, .bool false, .int .i64 131072, .int .i64 5, .int .i64 0, .bool (K % 16 == 3), .bool true, .bool false] rfl (ds3_wf K) (show 3 ≤ 20 by omega)
        have D8 := DD.out.step al8
        have hr8 := rdr_below RD.out al8
        have hsz := DD.out.below.size
        clear al8 DD RD
        obtain ⟨kq, hq⟩ := HG.out
        go_wp2_with (rw [← HW5.out])
        refine (hq (w.heap.size + 1 + 1) a n' c _ hr8 (HCD.out _ (by simp; omega))).mono ?_
        clear hq HG
        rintro e w7 ⟨rfl, hr7, t7⟩
        have hs7 := t7.size
        simp only [World.size_alloc] at hs7
        have D7 := D8.turn t7 (fun k hk => by subst hk; omega)
        have O7 := turn_or t7 O8 (fun k hk e => by subst e; omega)
        clear D8 O8 hr8 t7
        obtain ⟨r1, r2, r3, r4, r5, r6⟩ := G
        have al7 : Below w7.heap.size w7 (w7.alloc (.cells #[.int .i64 r1, .int .i64 r2, .int .i64 r3, .bool r4, .bool r5, .bool r6] 43)) := (Below.refl _ _).alloc (Nat.le_refl _) _
        have HOWN := hide (O7.1.alloc (.cells #[.int .i64 r1, .int .i64 r2, .int .i64 r3, .bool r4, .bool r5, .bool r6] 43))
        have HNEWS := hide (news6 w7 (r1, r2, r3, r4, r5, r6))
        have HONE := hide (one6 (r1, r2, r3, r4, r5, r6))
        have HLEN := hide (show (cells6 (r1, r2, r3, r4, r5, r6)).length = 1 * 6 from rfl)
        have HO7 := hide O7
        have HD7 := hide (D7.step al7)
        clear al7 O7 D7
        go_wp2_with (at_builtin; refine wpList_append_own _ rfl _ _ 28 rfl w6.heap.size 43 ri (.agg #[.int .i64 0, .int .i64 0, .int .i64 0, .bool false, .bool false, .bool false]) 6 32 Tryz.underlying28 hri hrz0 hrz1 hrz2 rfl (by decide) (.slice (some ⟨w6.heap.size, 0, none⟩) 3 3) 3 (flat (ds3 K)) rfl HOWN.out ⟨w7.heap.size, 0, none⟩ 1 1 (cells6 (r1, r2, r3, r4, r5, r6)) rfl HLEN.out HNEWS.out HONE.out (by unfold maxLen; omega) (by omega) (by simp; omega) ?_; intro v' w9 hown3 hgr3 _)
        obtain ⟨A', cap', he⟩ := or_shape hown3
        subst he
        have O9 : OR w9 w6.heap.size (.slice A' 4 cap') (ds3 K ++ [(r1, r2, r3, r4, r5, r6)]) := or_more (W := w7) (v := .slice (some ⟨w6.heap.size, 0, none⟩) 3 3) (g := (r1, r2, r3, r4, r5, r6)) HO7.out.2 HGW.out hown3
        have D9 := HD7.out.turn (grown_turn hgr3) (fun k hk => by have e' : some w6.heap.size = some k := hk; injection e' with e'; have := DDL.out; omega)
        obtain ⟨q9, rfl⟩ := or_addr O9 (by simp)
        have lq := (O9.1.lt q9 rfl).1
        have R9 := or_rs O9
        clear hown3 hgr3 HO7 HD7 HOWN HNEWS HONE HLEN O9
        obtain ⟨u1, u2, u3⟩ := D9.bc.two
        obtain ⟨s1, s2, s3, s4⟩ := D9.bm.three
        obtain ⟨y1, y2, y3⟩ := D9.kc.two
        obtain ⟨x1', x2', x3', x4'⟩ := D9.km.three
        have nA : w3.heap.size ≠ w.heap.size := by omega
        have nA' := nA.symm
        have nB : w3.heap.size ≠ w.heap.size + 1 := by omega
        have nB' := nB.symm
        have nC : w5.heap.size ≠ w.heap.size := by omega
        have nC' := nC.symm
        have nD : w5.heap.size ≠ w.heap.size + 1 := by omega
        have nD' := nD.symm
        obtain ⟨fA, ya0, ya1, ya2, ya3, ya4⟩ := D9.fin R9 (by omega) (Or.inl rfl)
        obtain ⟨fB, yb0, yb1, yb2, yb3, yb4⟩ := D9.fin R9 (by omega) (Or.inr rfl)
        simp only [setC, setM] at fA ya0 ya1 ya2 ya3 ya4 fB yb0 yb1 yb2 yb3 yb4
        have FA := hide fA
        have FB := hide fB
        clear fA fB D9 R9
        go_wp2_with fail
        go_region
        all_goals
          go_wp2
          exact bodyPost_ret (v := .tuple #[.agg #[.int .i64 pc, .slice (some ⟨g, 0, none⟩) xs.length d], .agg #[.slice (some ⟨b1, 0, none⟩) YF.length d1, .slice (some ⟨b2, 0, none⟩) R.length d2, .slice (some ⟨b3, 0, none⟩) O.length d3], .slice (some ⟨q9, 0, none⟩) 4 cap']) (by first | (simp [results, Tryz.results4, go_sem, ya0, ya1, ya2, ya3, ya4]; done) | (simp [results, Tryz.results4, go_sem, yb0, yb1, yb2, yb3, yb4]; done)) rfl
            (by rw [HRS.out]; exact ⟨g, d, b1, d1, b2, d2, b3, d3, _, _, rfl, by first | exact FA.out | exact FB.out⟩)
      · have g7 : (K % 8 == 7) = false := by simpa using c7
        by_cases c6 : K % 16 = 6
        · have g6 : (K % 16 == 6) = true := by simpa using c6
          have HRS := hide (show YR = ds2 from by rw [HYR.out, if_neg c7, if_pos c6])
          clear c7 c6
          have eW := HW5.out
          subst eW
          simp only [World.size_alloc] at hs6a
          have D9 := (DD.out.step ((Below.refl _ _).alloc (Nat.le_refl _) (.cells #[.int .i64 0, .int .i64 5, .int .i64 0, .bool false, .bool false, .bool true, .int .i64 65536, .int .i64 5, .int .i64 0, .bool true, .bool true, .bool false, .int .i64 131072, .int .i64 5, .int .i64 0, .bool (K % 16 == 3), .bool true, .bool false] 43))).step ((Below.refl _ _).alloc (Nat.le_refl _) (.cells #[.int .i64 0, .int .i64 14, .int .i64 0, .bool true, .bool true, .bool true, .int .i64 65536, .int .i64 14, .int .i64 0, .bool true, .bool true, .bool false] 43))
          have O9 := or_lit ((w5.alloc (.cells #[.slice (some ⟨b1, 0, none⟩) YF.length d1, .slice (some ⟨b2, 0, none⟩) R.length d2, .slice (some ⟨b3, 0, none⟩) O.length d3] 27)).alloc (.cells #[.int .i64 0, .int .i64 5, .int .i64 0, .bool false, .bool false, .bool true, .int .i64 65536, .int .i64 5, .int .i64 0, .bool true, .bool true, .bool false, .int .i64 131072, .int .i64 5, .int .i64 0, .bool (K % 16 == 3), .bool true, .bool false] 43)) ds2 #[.int .i64 0, .int .i64 14, .int .i64 0, .bool true, .bool true, .bool true, .int .i64 65536, .int .i64 14, .int .i64 0, .bool true, .bool true, .bool false] rfl ds2_wf (show 2 ≤ 20 by omega)
          simp only [World.size_alloc] at O9
          have R9 := or_rs O9
          clear DD RD O9
          go_wp2_with fail
          obtain ⟨u1, u2, u3⟩ := D9.bc.two
          obtain ⟨s1, s2, s3, s4⟩ := D9.bm.three
          obtain ⟨y1, y2, y3⟩ := D9.kc.two
          obtain ⟨x1', x2', x3', x4'⟩ := D9.km.three
          have nA : w3.heap.size ≠ w.heap.size := by omega
          have nA' := nA.symm
          have nB : w3.heap.size ≠ w.heap.size + 1 := by omega
          have nB' := nB.symm
          have nC : w5.heap.size ≠ w.heap.size := by omega
          have nC' := nC.symm
          have nD : w5.heap.size ≠ w.heap.size + 1 := by omega
          have nD' := nD.symm
          obtain ⟨fA, ya0, ya1, ya2, ya3, ya4⟩ := D9.fin R9 (by omega) (Or.inl rfl)
          obtain ⟨fB, yb0, yb1, yb2, yb3, yb4⟩ := D9.fin R9 (by omega) (Or.inr rfl)
          simp only [setC, setM] at fA ya0 ya1 ya2 ya3 ya4 fB yb0 yb1 yb2 yb3 yb4
          have FA := hide fA
          have FB := hide fB
          clear fA fB D9 R9
          go_region
          all_goals
            go_wp2
            exact bodyPost_ret (v := .tuple #[.agg #[.int .i64 pc, .slice (some ⟨g, 0, none⟩) xs.length d], .agg #[.slice (some ⟨b1, 0, none⟩) YF.length d1, .slice (some ⟨b2, 0, none⟩) R.length d2, .slice (some ⟨b3, 0, none⟩) O.length d3], .slice (some ⟨w5.heap.size + 1 + 1, 0, none⟩) 2 2]) (by first | (simp [results, Tryz.results4, go_sem, ya0, ya1, ya2, ya3, ya4]; done) | (simp [results, Tryz.results4, go_sem, yb0, yb1, yb2, yb3, yb4]; done)) rfl
              (by rw [HRS.out]; exact ⟨g, d, b1, d1, b2, d2, b3, d3, _, _, rfl, by first | exact FA.out | exact FB.out⟩)
        · have g6 : (K % 16 == 6) = false := by simpa using c6
          have HRS := hide (show YR = ds3 K from by rw [HYR.out, if_neg c7, if_neg c6])
          clear c7 c6
          have eW := HW5.out
          subst eW
          simp only [World.size_alloc] at hs6a
          have D9 := DD.out.step ((Below.refl _ _).alloc (Nat.le_refl _) (.cells #[.int .i64 0, .int .i64 5, .int .i64 0, .bool false, .bool false, .bool true, .int .i64 65536, .int .i64 5, .int .i64 0, .bool true, .bool true, .bool false, .int .i64 131072, .int .i64 5, .int .i64 0, .bool (K % 16 == 3), .bool true, .bool false] 43))
          have R9 := or_rs (or_lit (w5.alloc (.cells #[.slice (some ⟨b1, 0, none⟩) YF.length d1, .slice (some ⟨b2, 0, none⟩) R.length d2, .slice (some ⟨b3, 0, none⟩) O.length d3] 27)) (ds3 K) #[.int .i64 0, .int .i64 5, .int .i64 0, .bool false, .bool false, .bool true, .int .i64 65536, .int .i64 5, .int .i64 0, .bool true, .bool true, .bool false, .int .i64 131072, .int .i64 5, .int .i64 0, .bool (K % 16 == 3), .bool true, .bool false] rfl (ds3_wf K) (show 3 ≤ 20 by omega))
          simp only [World.size_alloc] at R9
          clear DD RD
          go_wp2_with fail
          obtain ⟨u1, u2, u3⟩ := D9.bc.two
          obtain ⟨s1, s2, s3, s4⟩ := D9.bm.three
          obtain ⟨y1, y2, y3⟩ := D9.kc.two
          obtain ⟨x1', x2', x3', x4'⟩ := D9.km.three
          have nA : w3.heap.size ≠ w.heap.size := by omega
          have nA' := nA.symm
          have nB : w3.heap.size ≠ w.heap.size + 1 := by omega
          have nB' := nB.symm
          have nC : w5.heap.size ≠ w.heap.size := by omega
          have nC' := nC.symm
          have nD : w5.heap.size ≠ w.heap.size + 1 := by omega
          have nD' := nD.symm
          obtain ⟨fA, ya0, ya1, ya2, ya3, ya4⟩ := D9.fin R9 (by omega) (Or.inl rfl)
          obtain ⟨fB, yb0, yb1, yb2, yb3, yb4⟩ := D9.fin R9 (by omega) (Or.inr rfl)
          simp only [setC, setM] at fA ya0 ya1 ya2 ya3 ya4 fB yb0 yb1 yb2 yb3 yb4
          have FA := hide fA
          have FB := hide fB
          clear fA fB D9 R9
          go_region
          all_goals
            go_wp2
            exact bodyPost_ret (v := .tuple #[.agg #[.int .i64 pc, .slice (some ⟨g, 0, none⟩) xs.length d], .agg #[.slice (some ⟨b1, 0, none⟩) YF.length d1, .slice (some ⟨b2, 0, none⟩) R.length d2, .slice (some ⟨b3, 0, none⟩) O.length d3], .slice (some ⟨w5.heap.size + 1, 0, none⟩) 3 3]) (by first | (simp [results, Tryz.results4, go_sem, ya0, ya1, ya2, ya3, ya4]; done) | (simp [results, Tryz.results4, go_sem, yb0, yb1, yb2, yb3, yb4]; done)) rfl
              (by rw [HRS.out]; exact ⟨g, d, b1, d1, b2, d2, b3, d3, _, _, rfl, by first | exact FA.out | exact FB.out⟩)
end Go.Proofs.YtaillnegkfagfacGreat

namespace Go.Proofs.YtaillnegkfagfacGreat
open Go.RowKit
set_option linter.unusedVariables false
set_option linter.unusedSimpArgs false
set_option maxRecDepth 100000

set_option maxHeartbeats 4000000 in
theorem sStep_bad (pc : Int) (cb co n cc : Nat) (zs : List Int) (b1 o1 b2 o2 b3 o3 n1 c1 n2 c2 n3 c3 : Nat) (x1 x2 x3 : List Int) (ra : Option Addr) (rn rc : Nat) (rs : List Rg) (w : World) (hc : IS w (some ⟨cb, co, none⟩) n cc zs) (h1 : BS w (some ⟨b1, o1, none⟩) n1 c1 x1) (h2 : BS w (some ⟨b2, o2, none⟩) n2 c2 x2) (h3 : BS w (some ⟨b3, o3, none⟩) n3 c3 x3) (hrs : RS w ra rn rc rs) (hcn : n ≤ 1048576) (hn : n1 + n2 + n3 ≤ 1048576) (hbad : (cok pc n zs && mok n1 n2 n3) = false) :
    Calls Tryz.prog 5 #[.agg #[.int .i64 pc, .slice (some ⟨cb, co, none⟩) n cc], .agg #[.slice (some ⟨b1, o1, none⟩) n1 c1, .slice (some ⟨b2, o2, none⟩) n2 c2, .slice (some ⟨b3, o3, none⟩) n3 c3], .slice ra rn rc] w (StPost w ⟨5, 2, pc, zs, x1, x2, x3⟩) := by
  have HC := hide (fun w h => l3CoreOk_any pc (some ⟨cb, co, none⟩) n cc zs w h)
  have HM := hide (fun w => sMemOk_any (some ⟨b1, o1, none⟩) (some ⟨b2, o2, none⟩) (some ⟨b3, o3, none⟩) n1 c1 n2 c2 n3 c3 w)
  generalize cok pc n zs = C at *
  generalize mok n1 n2 n3 = MM at *
  obtain ⟨W, hW⟩ : ∃ W, W = ((((w.alloc (.cells #[.int .i64 pc, .slice (some ⟨cb, co, none⟩) n cc] 25)).alloc (.cells #[.slice (some ⟨b1, o1, none⟩) n1 c1, .slice (some ⟨b2, o2, none⟩) n2 c2, .slice (some ⟨b3, o3, none⟩) n3 c3] 27)).alloc (.cells #[.int .i64 0, .slice none 0 0] 25)).alloc (.cells #[.slice none 0 0, .slice none 0 0, .slice none 0 0] 27)) := ⟨_, rfl⟩
  have hB0 : Below w.heap.size w W := by rw [hW]; exact ((((Below.refl _ _).alloc (Nat.le_refl _) _).alloc (by simp) _).alloc (by simp; omega) _).alloc (by simp; omega) _
  have k0 : Blk W (w.heap.size) #[.int .i64 pc, .slice (some ⟨cb, co, none⟩) n cc] 25 := by
    rw [hW]
    have := (((Blk.new w #[.int .i64 pc, .slice (some ⟨cb, co, none⟩) n cc] 25).alloc (.cells #[.slice (some ⟨b1, o1, none⟩) n1 c1, .slice (some ⟨b2, o2, none⟩) n2 c2, .slice (some ⟨b3, o3, none⟩) n3 c3] 27)).alloc (.cells #[.int .i64 0, .slice none 0 0] 25)).alloc (.cells #[.slice none 0 0, .slice none 0 0, .slice none 0 0] 27)
    simpa only [World.size_alloc] using this
  have k1 : Blk W (w.heap.size + 1) #[.slice (some ⟨b1, o1, none⟩) n1 c1, .slice (some ⟨b2, o2, none⟩) n2 c2, .slice (some ⟨b3, o3, none⟩) n3 c3] 27 := by
    rw [hW]
    have := ((Blk.new (w.alloc (.cells #[.int .i64 pc, .slice (some ⟨cb, co, none⟩) n cc] 25)) #[.slice (some ⟨b1, o1, none⟩) n1 c1, .slice (some ⟨b2, o2, none⟩) n2 c2, .slice (some ⟨b3, o3, none⟩) n3 c3] 27).alloc (.cells #[.int .i64 0, .slice none 0 0] 25)).alloc (.cells #[.slice none 0 0, .slice none 0 0, .slice none 0 0] 27)
    simpa only [World.size_alloc] using this
  have k2 : Blk W (w.heap.size + 1 + 1) #[.int .i64 0, .slice none 0 0] 25 := by
    rw [hW]
    have := (Blk.new ((w.alloc (.cells #[.int .i64 pc, .slice (some ⟨cb, co, none⟩) n cc] 25)).alloc (.cells #[.slice (some ⟨b1, o1, none⟩) n1 c1, .slice (some ⟨b2, o2, none⟩) n2 c2, .slice (some ⟨b3, o3, none⟩) n3 c3] 27)) #[.int .i64 0, .slice none 0 0] 25).alloc (.cells #[.slice none 0 0, .slice none 0 0, .slice none 0 0] 27)
    simpa only [World.size_alloc] using this
  have k3 : Blk W (w.heap.size + 1 + 1 + 1) #[.slice none 0 0, .slice none 0 0, .slice none 0 0] 27 := by
    rw [hW]
    have := Blk.new (((w.alloc (.cells #[.int .i64 pc, .slice (some ⟨cb, co, none⟩) n cc] 25)).alloc (.cells #[.slice (some ⟨b1, o1, none⟩) n1 c1, .slice (some ⟨b2, o2, none⟩) n2 c2, .slice (some ⟨b3, o3, none⟩) n3 c3] 27)).alloc (.cells #[.int .i64 0, .slice none 0 0] 25)) #[.slice none 0 0, .slice none 0 0, .slice none 0 0] 27
    simpa only [World.size_alloc] using this
  have HLC := hide (fun w h => l3Core_any pc cb co n cc zs w h hcn)
  have HL1 := hide (fun w h1 h2 h3 => l1Copy_some b1 o1 b2 o2 b3 o3 n1 c1 n2 c2 n3 c3 x1 x2 x3 w h1 h2 h3 hn)
  have hc0 := hc.below hB0
  have h10 := h1.below hB0
  have h20 := h2.below hB0
  have h30 := h3.below hB0
  have hr0 := hrs.below hB0
  clear hc h1 h2 h3 hrs
  obtain ⟨e1, e2, e3⟩ := k0.two'
  go_enter Tryz.func5, Tryz.ntmps5
  go_wp2_with fail
  rw [← hW]
  clear hW
  refine (HLC.out _ hc0).mono ?_
  rintro e w1 ⟨ca, cp, rfl, oC, hb1⟩
  have hA1 : Below W.heap.size W (w1.alloc (.cells #[.int .i64 pc, .slice ca n cp] 25)) := hb1.alloc hb1.size _
  have kA := Blk.new w1 #[.int .i64 pc, .slice ca n cp] 25
  have hlA := (k3.below hb1).lt
  obtain ⟨f1, f2, f3, f4⟩ := (k1.below hb1).three
  have lf1 := (k1.below hb1).lt
  clear e1 e2 e3
  go_wp2_with fail
  refine (HL1.out _ (h10.below hA1) (h20.below hA1) (h30.below hA1)).mono ?_
  rintro e w2 ⟨g1, d1, g2, d2, g3, d3, rfl, mM, hb2⟩
  have hA2 : Below (w1.alloc (.cells #[.int .i64 pc, .slice ca n cp] 25)).heap.size (w1.alloc (.cells #[.int .i64 pc, .slice ca n cp] 25)) (w2.alloc (.cells #[.slice (some ⟨g1, 0, none⟩) n1 d1, .slice (some ⟨g2, 0, none⟩) n2 d2, .slice (some ⟨g3, 0, none⟩) n3 d3] 27)) := hb2.alloc hb2.size _
  have bb := hA1.trans (hA2.mono hA1.size)
  have SS : Ss w (w2.alloc (.cells #[.slice (some ⟨g1, 0, none⟩) n1 d1, .slice (some ⟨g2, 0, none⟩) n2 d2, .slice (some ⟨g3, 0, none⟩) n3 d3] 27)) w1.heap.size w2.heap.size pc cb co n cc zs b1 o1 b2 o2 b3 o3 n1 c1 n2 c2 n3 c3 x1 x2 x3 ra rn rc rs pc (.slice ca n cp) zs (.slice (some ⟨g1, 0, none⟩) n1 d1) (.slice (some ⟨g2, 0, none⟩) n2 d2) (.slice (some ⟨g3, 0, none⟩) n3 d3) x1 x2 x3 :=
    ⟨hB0.trans (bb.mono hB0.size), k0.below bb, k1.below bb, k2.below bb, k3.below bb, kA.below hA2, Blk.new w2 _ _, hlA, (by have := hb2.size; simp at this; omega), ((oC.below ((Below.refl _ _).alloc (Nat.le_refl _) (.cells #[.int .i64 pc, .slice ca n cp] 25))).below hA2).mono hB0.size, own3_mono (own3_alloc mM _) (by have := hB0.size; have := hA1.size; omega), hc0.below bb, h10.below bb, h20.below bb, h30.below bb, hr0.below bb⟩
  have hs0 : w.heap.size < w2.heap.size := by have := hb2.size; simp at this; omega
  have lk0 := ((k0.below hA1).below hb2).lt
  obtain ⟨e1, e2, e3⟩ := ((k0.below hA1).below hb2).two'
  clear hB0 k0 k1 k2 k3 hc0 h10 h20 h30 hr0 oC hb1 hA1 kA hlA f1 f2 f3 f4 mM hb2 hA2 bb lf1
  go_wp2_with fail
  refine (HC.out _ SS.ic).mono ?_
  rintro e w3 ⟨rfl, hb3⟩
  replace SS := SS.step hb3
  clear hb3 e1 e2 e3 lk0
  cases C
  · clear hbad
    have lkA := SS.kA.lt
    have hAs := SS.hA
    have hABs := SS.hAB
    have nA2 : w1.heap.size ≠ w.heap.size + 1 + 1 := by omega
    have nA3 : w1.heap.size ≠ w.heap.size + 1 + 1 + 1 := by omega
    have nB2 : w2.heap.size ≠ w.heap.size + 1 + 1 := by omega
    have nB3 : w2.heap.size ≠ w.heap.size + 1 + 1 + 1 := by omega
    have nA2' := nA2.symm
    have nA3' := nA3.symm
    have nB2' := nB2.symm
    have nB3' := nB3.symm
    obtain ⟨fA, ya0, ya1, ya2, ya3, ya4⟩ := st_find (pc := pc) SS.oc SS.om SS.k2 SS.k3 SS.below (Nat.le_refl _) (by omega) (Or.inl rfl)
    obtain ⟨fB, yb0, yb1, yb2, yb3, yb4⟩ := st_find (pc := pc) SS.oc SS.om SS.k2 SS.k3 SS.below (Nat.le_refl _) (by omega) (Or.inr rfl)
    simp only [setC, setM] at fA ya0 ya1 ya2 ya3 ya4 fB yb0 yb1 yb2 yb3 yb4
    have FA := hide fA
    have FB := hide fB
    obtain ⟨t1, t2, t3⟩ := SS.kA.two'
    obtain ⟨s1, s2, s3, s4⟩ := SS.kB.three
    obtain ⟨z1, z2, z3⟩ := SS.k2.two'
    obtain ⟨z4, z5, z6, z7⟩ := SS.k3.three
    clear fA fB SS
    go_wp2
    go_region
    all_goals
      go_wp2
      exact bodyPost_ret (v := .tuple #[.agg #[.int .i64 pc, .slice ca n cp], .agg #[.slice (some ⟨g1, 0, none⟩) n1 d1, .slice (some ⟨g2, 0, none⟩) n2 d2, .slice (some ⟨g3, 0, none⟩) n3 d3], .int .i64 5, .int .i64 2]) (by first | (simp [results, Tryz.results5, go_sem, ya0, ya1, ya2, ya3, ya4]; done) | (simp [results, Tryz.results5, go_sem, yb0, yb1, yb2, yb3, yb4]; done)) rfl
        ⟨_, _, _, _, _, _, _, _, _, _, _, _, rfl, by first | exact FA.out.1 | exact FB.out.1, by first | exact FA.out.2.1 | exact FB.out.2.1, by first | exact FA.out.2.2 | exact FB.out.2.2⟩

  · have hMM : MM = false := by simpa using hbad
    subst hMM
    clear hbad
    obtain ⟨f1, f2, f3, f4⟩ := SS.k1.three
    go_wp2_with fail
    refine (HM.out _).mono ?_
    rintro e w4 ⟨rfl, hb4⟩
    replace SS := SS.step hb4
    clear hb4 f1 f2 f3 f4
    have lkA := SS.kA.lt
    have hAs := SS.hA
    have hABs := SS.hAB
    have nA2 : w1.heap.size ≠ w.heap.size + 1 + 1 := by omega
    have nA3 : w1.heap.size ≠ w.heap.size + 1 + 1 + 1 := by omega
    have nB2 : w2.heap.size ≠ w.heap.size + 1 + 1 := by omega
    have nB3 : w2.heap.size ≠ w.heap.size + 1 + 1 + 1 := by omega
    have nA2' := nA2.symm
    have nA3' := nA3.symm
    have nB2' := nB2.symm
    have nB3' := nB3.symm
    obtain ⟨fA, ya0, ya1, ya2, ya3, ya4⟩ := st_find (pc := pc) SS.oc SS.om SS.k2 SS.k3 SS.below (Nat.le_refl _) (by omega) (Or.inl rfl)
    obtain ⟨fB, yb0, yb1, yb2, yb3, yb4⟩ := st_find (pc := pc) SS.oc SS.om SS.k2 SS.k3 SS.below (Nat.le_refl _) (by omega) (Or.inr rfl)
    simp only [setC, setM] at fA ya0 ya1 ya2 ya3 ya4 fB yb0 yb1 yb2 yb3 yb4
    have FA := hide fA
    have FB := hide fB
    obtain ⟨t1, t2, t3⟩ := SS.kA.two'
    obtain ⟨s1, s2, s3, s4⟩ := SS.kB.three
    obtain ⟨z1, z2, z3⟩ := SS.k2.two'
    obtain ⟨z4, z5, z6, z7⟩ := SS.k3.three
    clear fA fB SS
    go_wp2
    go_region
    all_goals
      go_wp2
      exact bodyPost_ret (v := .tuple #[.agg #[.int .i64 pc, .slice ca n cp], .agg #[.slice (some ⟨g1, 0, none⟩) n1 d1, .slice (some ⟨g2, 0, none⟩) n2 d2, .slice (some ⟨g3, 0, none⟩) n3 d3], .int .i64 5, .int .i64 2]) (by first | (simp [results, Tryz.results5, go_sem, ya0, ya1, ya2, ya3, ya4]; done) | (simp [results, Tryz.results5, go_sem, yb0, yb1, yb2, yb3, yb4]; done)) rfl
        ⟨_, _, _, _, _, _, _, _, _, _, _, _, rfl, by first | exact FA.out.1 | exact FB.out.1, by first | exact FA.out.2.1 | exact FB.out.2.1, by first | exact FA.out.2.2 | exact FB.out.2.2⟩

end Go.Proofs.YtaillnegkfagfacGreat

namespace Go.Proofs.YtaillnegkfagfacGreat
open Go.RowKit
set_option linter.unusedVariables false
set_option linter.unusedSimpArgs false
set_option maxRecDepth 100000

theorem Ss.turn {w W X : World} {A B : Nat} {pc : Int} {cb co n cc : Nat} {zs : List Int} {b1 o1 b2 o2 b3 o3 n1 c1 n2 c2 n3 c3 : Nat} {x1 x2 x3 : List Int} {ra : Option Addr} {rn rc : Nat} {rs : List Rg} {pv : Int} {cv : Value} {zv : List Int} {v1 v2 v3 : Value} {y1 y2 y3 : List Int} {zv' : List Int} (h : Ss w W A B pc cb co n cc zs b1 o1 b2 o2 b3 o3 n1 c1 n2 c2 n3 c3 x1 x2 x3 ra rn rc rs pv cv zv v1 v2 v3 y1 y2 y3) (hc : IS w (some ⟨cb, co, none⟩) n cc zs) (h1 : BS w (some ⟨b1, o1, none⟩) n1 c1 x1) (h2 : BS w (some ⟨b2, o2, none⟩) n2 c2 x2) (h3 : BS w (some ⟨b3, o3, none⟩) n3 c3 x3) (hrs : RS w ra rn rc rs) (hT : Turn (fun j => cv.ownBlock = some j) W X) (ho : OI X w.heap.size cv zv') (hm : Own3 X w.heap.size v1 v2 v3 y1 y2 y3) : Ss w X A B pc cb co n cc zs b1 o1 b2 o2 b3 o3 n1 c1 n2 c2 n3 c3 x1 x2 x3 ra rn rc rs pv cv zv' v1 v2 v3 y1 y2 y3 := by
  have hB : Below w.heap.size w X := below_turn h.below hT (fun k e => (h.oc.lt k e).1) h.below.size
  exact ⟨hB, turn_blk hT h.k0 (fun e => oi_ne h.oc h.k0 (by decide) e), turn_blk hT h.k1 (fun e => oi_ne h.oc h.k1 (by decide) e), turn_blk hT h.k2 (fun e => oi_ne h.oc h.k2 (by decide) e), turn_blk hT h.k3 (fun e => oi_ne h.oc h.k3 (by decide) e), turn_blk hT h.kA (fun e => oi_ne h.oc h.kA (by decide) e), turn_blk hT h.kB (fun e => oi_ne h.oc h.kB (by decide) e), h.hA, h.hAB, ho, hm, hc.below hB, h1.below hB, h2.below hB, h3.below hB, hrs.below hB⟩
theorem Ss.reg {w W : World} {A B : Nat} {pc : Int} {cb co n cc : Nat} {zs : List Int} {b1 o1 b2 o2 b3 o3 n1 c1 n2 c2 n3 c3 : Nat} {x1 x2 x3 : List Int} {ra : Option Addr} {rn rc : Nat} {rs : List Rg} {pv : Int} {zv : List Int} {v1 v2 v3 : Value} {y1 y2 y3 : List Int} {rb nn cp : Nat} (h : Ss w W A B pc cb co n cc zs b1 o1 b2 o2 b3 o3 n1 c1 n2 c2 n3 c3 x1 x2 x3 ra rn rc rs pv (.slice (some ⟨rb, 0, none⟩) nn cp) zv v1 v2 v3 y1 y2 y3) (hc : IS w (some ⟨cb, co, none⟩) n cc zs) (h1 : BS w (some ⟨b1, o1, none⟩) n1 c1 x1) (h2 : BS w (some ⟨b2, o2, none⟩) n2 c2 x2) (h3 : BS w (some ⟨b3, o3, none⟩) n3 c3 x3) (hrs : RS w ra rn rc rs) (i : Nat) (hi : i < nn) (z : Int) (hz : wfi z) : Ss w (W.setCell ⟨rb, i, none⟩ (.int .i64 z)) A B pc cb co n cc zs b1 o1 b2 o2 b3 o3 n1 c1 n2 c2 n3 c3 x1 x2 x3 ra rn rc rs pv (.slice (some ⟨rb, 0, none⟩) nn cp) (zv.set i z) v1 v2 v3 y1 y2 y3 := by
  have tt : Turn (fun j => j = rb) W (W.setCell ⟨rb, i, none⟩ (.int .i64 z)) := turn_setg _ _ _ _
  obtain ⟨cur, kc⟩ := h.oc.blk
  have nb : ∀ {u : Value} {ys : List Int}, OB W w.heap.size u ys → ∀ k, u.ownBlock = some k → ¬ (k = rb) := fun h k hk e => ob_ne h kc (by decide) (by rw [hk, e])
  exact h.turn hc h1 h2 h3 hrs (tt.mono (fun j e => by have e' : j = rb := e; show some rb = some j; rw [e'])) (h.oc.set i hi z hz) ⟨turn_ob tt h.om.1 (nb h.om.1), turn_ob tt h.om.2.1 (nb h.om.2.1), turn_ob tt h.om.2.2.1 (nb h.om.2.2.1), h.om.2.2.2⟩
theorem Ss.setpc {w W : World} {A B : Nat} {pc : Int} {cb co n cc : Nat} {zs : List Int} {b1 o1 b2 o2 b3 o3 n1 c1 n2 c2 n3 c3 : Nat} {x1 x2 x3 : List Int} {ra : Option Addr} {rn rc : Nat} {rs : List Rg} {pv : Int} {cv : Value} {zv : List Int} {v1 v2 v3 : Value} {y1 y2 y3 : List Int} (h : Ss w W A B pc cb co n cc zs b1 o1 b2 o2 b3 o3 n1 c1 n2 c2 n3 c3 x1 x2 x3 ra rn rc rs pv cv zv v1 v2 v3 y1 y2 y3) (hc : IS w (some ⟨cb, co, none⟩) n cc zs) (h1 : BS w (some ⟨b1, o1, none⟩) n1 c1 x1) (h2 : BS w (some ⟨b2, o2, none⟩) n2 c2 x2) (h3 : BS w (some ⟨b3, o3, none⟩) n3 c3 x3) (hrs : RS w ra rn rc rs) (q : Int) : Ss w (W.setCell ⟨A, 0, none⟩ (.int .i64 q)) A B pc cb co n cc zs b1 o1 b2 o2 b3 o3 n1 c1 n2 c2 n3 c3 x1 x2 x3 ra rn rc rs q cv zv v1 v2 v3 y1 y2 y3 := by
  have hA := h.hA
  have hAB := h.hAB
  have tt : Turn (fun j => j = A) W (W.setCell ⟨A, 0, none⟩ (.int .i64 q)) := turn_setg _ _ _ _
  have hB : Below w.heap.size w (W.setCell ⟨A, 0, none⟩ (.int .i64 q)) := below_turn h.below tt (fun k e => by have e' : k = A := e; omega) h.below.size
  have nb : ∀ {u : Value} {ys : List Int}, OB W w.heap.size u ys → ∀ k, u.ownBlock = some k → ¬ (k = A) := fun g k hk e => ob_ne g h.kA (by decide) (by rw [hk, e])
  have kA := h.kA.set 0 (.int .i64 q)
  exact ⟨hB, turn_blk tt h.k0 (fun e => by have e' : w.heap.size = A := e; omega), turn_blk tt h.k1 (fun e => by have e' : w.heap.size + 1 = A := e; omega), turn_blk tt h.k2 (fun e => by have e' : w.heap.size + 1 + 1 = A := e; omega), turn_blk tt h.k3 (fun e => by have e' : w.heap.size + 1 + 1 + 1 = A := e; omega), by simpa using kA, turn_blk tt h.kB (fun e => by have e' : B = A := e; omega), h.hA, h.hAB, turn_oi tt h.oc (fun k hk e => oi_ne h.oc h.kA (by decide) (by rw [hk]; exact congrArg some e)), ⟨turn_ob tt h.om.1 (nb h.om.1), turn_ob tt h.om.2.1 (nb h.om.2.1), turn_ob tt h.om.2.2.1 (nb h.om.2.2.1), h.om.2.2.2⟩, hc.below hB, h1.below hB, h2.below hB, h3.below hB, hrs.below hB⟩
theorem Ss.mem {w W X : World} {A B : Nat} {pc : Int} {cb co n cc : Nat} {zs : List Int} {b1 o1 b2 o2 b3 o3 n1 c1 n2 c2 n3 c3 : Nat} {x1 x2 x3 : List Int} {ra : Option Addr} {rn rc : Nat} {rs : List Rg} {pv : Int} {cv : Value} {zv : List Int} {v1 v2 v3 : Value} {y1 y2 y3 : List Int} {zv' : List Int} {u1 u2 u3 : Value} {z1 z2 z3 : List Int} (h : Ss w W A B pc cb co n cc zs b1 o1 b2 o2 b3 o3 n1 c1 n2 c2 n3 c3 x1 x2 x3 ra rn rc rs pv cv zv v1 v2 v3 y1 y2 y3) (hc : IS w (some ⟨cb, co, none⟩) n cc zs) (h1 : BS w (some ⟨b1, o1, none⟩) n1 c1 x1) (h2 : BS w (some ⟨b2, o2, none⟩) n2 c2 x2) (h3 : BS w (some ⟨b3, o3, none⟩) n3 c3 x3) (hrs : RS w ra rn rc rs) (hT : Turn (fun j => cv.ownBlock = some j) W X) (ho : OI X w.heap.size cv zv') (hm : Own3 X w.heap.size u1 u2 u3 z1 z2 z3) :
    Ss w (setM (setC X A (.int .i64 pv) cv) B u1 u2 u3) A B pc cb co n cc zs b1 o1 b2 o2 b3 o3 n1 c1 n2 c2 n3 c3 x1 x2 x3 ra rn rc rs pv cv zv' u1 u2 u3 z1 z2 z3 := by
  have hA := h.hA
  have hAB := h.hAB
  have jA := turn_blk hT h.kA (fun e => oi_ne h.oc h.kA (by decide) e)
  have jB := turn_blk hT h.kB (fun e => oi_ne h.oc h.kB (by decide) e)
  have tt : Turn (fun j => j = A ∨ j = B) X (setM (setC X A (.int .i64 pv) cv) B u1 u2 u3) := (((turn_setg _ _ _ _).trans (turn_setg _ _ _ _)).mono (fun k e => Or.inl e)).trans ((((turn_setg _ _ _ _).trans (turn_setg _ _ _ _)).trans (turn_setg _ _ _ _)).mono (fun k e => Or.inr e))
  have hB0 : Below w.heap.size w X := below_turn h.below hT (fun k e => (h.oc.lt k e).1) h.below.size
  have hB : Below w.heap.size w (setM (setC X A (.int .i64 pv) cv) B u1 u2 u3) := below_turn hB0 tt (fun k e => by rcases e with e | e <;> omega) hB0.size
  have nb : ∀ {u : Value} {ys : List Int}, OB X w.heap.size u ys → ∀ k, u.ownBlock = some k → ¬ (k = A ∨ k = B) := fun g k hk e => by
    rcases e with e | e
    · exact ob_ne g jA (by decide) (by rw [hk, e])
    · exact ob_ne g jB (by decide) (by rw [hk, e])
  have low : ∀ {G : Nat} {u : Array Value} {t : TypeId}, Blk W G u t → t ≠ 3 → G < A → Blk (setM (setC X A (.int .i64 pv) cv) B u1 u2 u3) G u t := fun g ht hG => turn_blk tt (turn_blk hT g (fun e => oi_ne h.oc g ht e)) (fun e => by rcases e with e | e <;> omega)
  have kA : Blk (setM (setC X A (.int .i64 pv) cv) B u1 u2 u3) A #[.int .i64 pv, cv] 25 := by
    have k1 := ((((jA.set 0 (.int .i64 pv)).set 1 cv).other ⟨B, 0, none⟩ u1 (by dsimp only; omega)).other ⟨B, 1, none⟩ u2 (by dsimp only; omega)).other ⟨B, 2, none⟩ u3 (by dsimp only; omega)
    simpa [setC, setM] using k1
  have kB : Blk (setM (setC X A (.int .i64 pv) cv) B u1 u2 u3) B #[u1, u2, u3] 27 := by
    have k1 := ((((jB.other ⟨A, 0, none⟩ (.int .i64 pv) (by dsimp only; omega)).other ⟨A, 1, none⟩ cv (by dsimp only; omega)).set 0 u1).set 1 u2).set 2 u3
    simpa [setC, setM] using k1
  exact ⟨hB, low h.k0 (by decide) (by omega), low h.k1 (by decide) (by omega), low h.k2 (by decide) (by omega), low h.k3 (by decide) (by omega), kA, kB, h.hA, h.hAB, turn_oi tt ho (fun k hk e => by
    rcases e with e | e
    · exact oi_ne ho jA (by decide) (by rw [hk, e])
    · exact oi_ne ho jB (by decide) (by rw [hk, e])), ⟨turn_ob tt hm.1 (nb hm.1), turn_ob tt hm.2.1 (nb hm.2.1), turn_ob tt hm.2.2.1 (nb hm.2.2.1), hm.2.2.2⟩, hc.below hB, h1.below hB, h2.below hB, h3.below hB, hrs.below hB⟩
theorem oi_addr' {w : World} {base n cap : Nat} {a : Option Addr} {zs : List Int} (h : OI w base (.slice a n cap) zs) (hn : n ≠ 0) : ∃ g, a = some ⟨g, 0, none⟩ := by
  have hl := h.is.1
  obtain ⟨_, ⟨h0, _⟩ | ⟨g, cap', cur, hv, _⟩⟩ := h.1
  · injection h0 with _ h1 _; exact absurd h1 hn
  · injection hv with hv1 _ _; exact ⟨g, hv1⟩
theorem opr_alu (op d a i pc : Int) (rg : List Int) (n1 n2 n3 : Nat) (x1 x2 x3 : List Int) (rs : List Rg) (rn : Nat) (h : 2 ≤ op ∧ op ≤ 13) : opr op d a i pc rg n1 n2 n3 x1 x2 x3 rs rn = ⟨0, 0, (pc + 4) % 4294967296, rg.set d.toNat (alu op i (rg.getD d.toNat 0) (rg.getD a.toNat 0)), x1, x2, x3⟩ := by
  unfold opr
  rw [if_neg (by omega), if_neg (by omega), if_neg (by omega), if_neg (by omega), if_neg (by omega), if_neg (by omega), if_pos h]
theorem opr_else (op d a i pc : Int) (rg : List Int) (n1 n2 n3 : Nat) (x1 x2 x3 : List Int) (rs : List Rg) (rn : Nat) (h : op = 1 ∨ 20 ≤ op) : opr op d a i pc rg n1 n2 n3 x1 x2 x3 rs rn = ⟨(ev op i ((pc + 4) % 4294967296)).1, (ev op i ((pc + 4) % 4294967296)).2, if jmp op (rg.getD d.toNat 0) = true then (pc + 4 + 4 * wide i) % 4294967296 else (pc + 4) % 4294967296, rg, x1, x2, x3⟩ := by
  unfold opr
  rw [if_neg (by omega), if_neg (by omega), if_neg (by omega), if_neg (by omega), if_neg (by omega), if_neg (by omega), if_neg (by omega)]
end Go.Proofs.YtaillnegkfagfacGreat
