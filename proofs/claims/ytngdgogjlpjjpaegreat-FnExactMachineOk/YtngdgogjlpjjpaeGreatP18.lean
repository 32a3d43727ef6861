import Derived.Test.YtngdgogjlpjjpaeGreatP11
import Derived.Test.YtngdgogjlpjjpaeGreatP12
import Derived.Test.YtngdgogjlpjjpaeGreatP17
import Derived.Test.YtngdgogjlpjjpaeGreatP14
import Derived.Test.YtngdgogjlpjjpaeGreatP16
namespace Go.Proofs.YtngdgogjlpjjpaeGreat
open Go Go.Maps Go.WideShapes
open Go.RowKit Classical
set_option linter.unusedVariables false
set_option linter.unusedSimpArgs false
set_option maxRecDepth 100000
set_option maxHeartbeats 4000000 in
theorem linkFault_any (a : Option Addr) (n cap : Nat) (ms : List Md) (s c k d : Int) (w : World) (h : MSD w a n cap ms) :
    Calls Tryz.prog 167 #[.slice a n cap, .agg #[.int .i64 s, .int .i64 c, .int .i64 k, .int .i64 d]] w fun e w' => e = .returned (.int .i64 (snd4 (pmS ms) s c k d)) ∧ Below w.heap.size w w' := by
  have hA : Below w.heap.size w (w.alloc (.cells #[.int .i64 s, .int .i64 c, .int .i64 k, .int .i64 d] 44)) := (Below.refl _ _).alloc (Nat.le_refl _) _
  have hl := h.s.1
  have hm1 := h.s.2.1
  unfold maxLen at hm1
  have hpl := pmS_len ms
  have HH := hide h
  have HC := hide (fun W => iConfigOk_any s c k d W)
  clear h
  go_enter Tryz.func167, Tryz.ntmps167
  go_wp2_with fail
  refine (HC.out _).mono ?_
  rintro e w1 ⟨rfl, hb1⟩
  have HB1 := hide (hA.trans (hb1.mono (by simp)))
  clear hA hb1 HC
  cases hcf : cfo s c k d with
  | false =>
    have HS := hide (snd4_1 (ps := pmS ms) hcf)
    go_wp2
    go_ret
    exact ⟨ret_int HS.out.symm, HB1.out⟩
  | true =>
    by_cases hn2 : n < 1 ∨ 4 < n
    · have HS := hide (snd4_2 (ps := pmS ms) hcf (by omega))
      by_cases hn1 : n < 1
      · have hn1' : (n : Int) < 1 := by omega
        clear hn2
        go_wp2
        go_ret
        exact ⟨ret_int HS.out.symm, HB1.out⟩
      · have hn1' : ¬ (n : Int) < 1 := by omega
        have hn4' : (4 : Int) < (n : Int) := by omega
        clear hn2
        go_wp2
        go_ret
        exact ⟨ret_int HS.out.symm, HB1.out⟩
    have hn1' : ¬ (n : Int) < 1 := by omega
    have hn4' : ¬ (4 : Int) < (n : Int) := by omega
    have HN2 := hide (show ¬ ((pmS ms).length < 1 ∨ 4 < (pmS ms).length) by rw [hpl, hl]; exact hn2)
    clear hn2
    go_wp2
    go_loopw [20] (fun i wr => ∃ m : Nat, m ≤ n ∧ i = .int .i64 m ∧ (∀ j, j < m → mdoP ((pmS ms).getD j zP) = 0) ∧ Below w.heap.size w wr) (fun i _ => n - (intOf i).toNat)
    case atStart => exact ⟨0, Nat.zero_le _, rfl, fun j hj => absurd hj (by omega), HB1.out⟩
    case round =>
      obtain ⟨m, hm, rfl, hv, B⟩ := hrel
      by_cases hlt : m < n
      · have hlt' : (m : Int) < (n : Int) := by omega
        have H := HH.out.below B
        obtain ⟨b, off, rfl, q0, q1, q2, q3, q4, q5, q6, q7⟩ := H.s.at m hlt
        have HOK := hide (fun (W : World) (hb : Below wr.heap.size wr W) => Md.okI (MD.below (H.d m hlt) hb))
        obtain ⟨V, hV⟩ : ∃ V, V = mdoP (ms.getD m zMd).pm := ⟨_, rfl⟩
        rw [← hV] at HOK
        have HVV := hide (hV.trans (by rw [← pmS_at (by omega)]))
        have HV := hide hv
        have HB := hide B
        generalize ms.getD m zMd = M at *
        have al : Below wr.heap.size wr (wr.alloc (.cells #[.string M.nm, .slice M.ta M.tn M.tc, .slice M.ba M.bn M.bc, .slice M.da M.dn M.dc, .int .i64 M.bss, .slice M.ra M.rn M.rc, .slice M.ia M.im M.ic, .slice M.ea M.en M.ec] 104)) := (Below.refl _ _).alloc (Nat.le_refl _) _
        obtain ⟨g0, g1, g2, g3, g4, g5, g6, g7⟩ := (Blk.new wr #[.string M.nm, .slice M.ta M.tn M.tc, .slice M.ba M.bn M.bc, .slice M.da M.dn M.dc, .int .i64 M.bss, .slice M.ra M.rn M.rc, .slice M.ia M.im M.ic, .slice M.ea M.en M.ec] 104).eight
        have HAL := hide al
        clear hv B H hV al
        go_wp2_with fail
        refine (HOK.out _ HAL.out).mono ?_
        rintro e w2 ⟨rfl, hb2⟩
        have hb2' := HAL.out.trans (hb2.mono HAL.out.size)
        have HB2 := hide (HB.out.trans (hb2'.mono HB.out.size))
        clear hb2 hb2' HOK HB HAL q0 q1 q2 q3 q4 q5 q6 q7 g0 g1 g2 g3 g4 g5 g6 g7
        by_cases hz : V = 0
        · subst hz
          have HV2 := hide (show ∀ j, j < m + 1 → mdoP ((pmS ms).getD j zP) = 0 from fun j hj => by
            by_cases e : j = m
            · subst e; exact HVV.out.symm
            · exact HV.out j (by omega))
          go_wp2
          go_roundw
          case rel => exact ⟨m + 1, by omega, by go_num, HV2.out, HB2.out⟩
          case measure => simp [intOf]; omega
        · have hz' : (V != 0) = true := by simp [hz]
          have HS := hide (snd4_3 (ps := pmS ms) hcf HN2.out m (by omega) (by rw [← HVV.out]; exact hz))
          go_wp2
          go_ret
          exact ⟨ret_int HS.out.symm, HB2.out⟩
      · have hlt' : ¬ (m : Int) < (n : Int) := by omega
        have HV := hide (show vlds (pmS ms) from fun i hi => hv i (by omega))
        have HB := hide B
        have HF := hide (firstOfM_any a n cap ms wr (HH.out.s.below B) (by omega))
        have hsz := fd_size_le (mdNm ms) n
        have HNS := hide (nms_size (ms := ms) hl)
        obtain ⟨Sz, hSz⟩ : ∃ Sz, Sz = size (fd (mdNm ms) n) := ⟨_, rfl⟩
        have HSZ := hide hSz
        rw [← hSz] at hsz HNS
        clear hv B hSz
        go_wp2_with fail
        refine HF.out.mono ?_
        rintro e w2 ⟨rfl, hown, hb2⟩
        have hlen : ∀ ty, (Builtin.len_ #[262] ty #[.map (some wr.heap.size)]).run Tryz.prog w2 = .ok (.int .i64 (Sz : Int)) w2 := by intro ty; rw [HSZ.out]; exact hown.len Tryz.underlying262 ty
        have HB2 := hide (HB.out.trans (hb2.mono HB.out.size))
        clear hown hb2 HF HB
        by_cases he : Sz = n
        · have HS := hide (snd4_0 (d := d) hcf HN2.out HV.out (HNS.out.1 he))
          subst he
          have hne : ((Sz : Int) != (Sz : Int)) = false := by simp
          go_wp2
          go_ret
          exact ⟨ret_int HS.out.symm, HB2.out⟩
        · have HS := hide (show snd4 (pmS ms) s c k d = 4 by
            unfold snd4
            rw [if_neg (by rw [hcf]; decide), if_neg HN2.out, if_neg (fun e => e HV.out), if_pos (fun e => he (HNS.out.2 e))])
          have hne : ((Sz : Int) != (n : Int)) = true := by simp; omega
          go_wp2
          go_ret
          exact ⟨ret_int HS.out.symm, HB2.out⟩
end Go.Proofs.YtngdgogjlpjjpaeGreat
namespace Go.Proofs.YtngdgogjlpjjpaeGreat
open Go.RowKit Classical
set_option linter.unusedVariables false
set_option linter.unusedSimpArgs false
set_option maxRecDepth 100000
def GB (ps : List PMod) (m q R : Nat) : Prop := (∀ i, i < ps.length → ∀ k, k < (ps.getD i zP).bl.length → (i < m ∨ (i = m ∧ k < q)) → ((ps.getD i zP).bl.getD k []).length ≤ R) ∧ (R = 0 ∨ ∃ i, i < ps.length ∧ ∃ k, k < (ps.getD i zP).bl.length ∧ ((ps.getD i zP).bl.getD k []).length = R)
theorem gb_zero (ps : List PMod) : GB ps 0 0 0 := ⟨fun i _ k _ h => by omega, .inl rfl⟩
theorem GB.next {ps : List PMod} {m q R : Nat} (h : GB ps m q R) (hq : (ps.getD m zP).bl.length ≤ q) : GB ps (m + 1) 0 R :=
  ⟨fun i hi k hk e => h.1 i hi k hk (by
    by_cases e2 : i = m
    · subst e2; right; exact ⟨rfl, by omega⟩
    · left; omega), h.2⟩
theorem GB.step {ps : List PMod} {m q R : Nat} (h : GB ps m q R) (hm : m < ps.length) (hq : q < (ps.getD m zP).bl.length) : GB ps m (q + 1) (max R ((ps.getD m zP).bl.getD q []).length) := by
  refine ⟨fun i hi k hk e => ?_, ?_⟩
  · by_cases e2 : i = m ∧ k = q
    · obtain ⟨rfl, rfl⟩ := e2; omega
    · have := h.1 i hi k hk (by omega); omega
  · by_cases hc : ((ps.getD m zP).bl.getD q []).length ≤ R
    · rw [show max R ((ps.getD m zP).bl.getD q []).length = R by omega]
      exact h.2
    · exact .inr ⟨m, hm, q, hq, by omega⟩
theorem gb_shrt {ps : List PMod} {R : Nat} (h : GB ps ps.length 0 R) (w : Int) (hw : 1 ≤ w) : (w < (R : Int)) ↔ ¬ shrt ps w := by
  constructor
  · intro h1 hs
    rcases h.2 with h2 | ⟨i, hi, k, hk, e⟩
    · omega
    · have := hs i hi k hk
      omega
  · intro hs
    apply Classical.byContradiction
    intro hn
    exact hs (fun i hi k hk => by have := h.1 i hi k hk (.inl hi); omega)
set_option maxHeartbeats 4000000 in
theorem greatestBank_any (a : Option Addr) (n cap : Nat) (ms : List Md) (w : World) (h : MSD w a n cap ms) (hv : vlds (pmS ms)) (hn4 : n ≤ 4) :
    Calls Tryz.prog 169 #[.slice a n cap] w fun e w' => ∃ R : Nat, e = .returned (.int .i64 (R : Int)) ∧ GB (pmS ms) (pmS ms).length 0 R ∧ Below w.heap.size w w' := by
  have hl := h.s.1
  have hpl : (pmS ms).length = n := by rw [pmS_len, hl]
  have HH := hide h
  have HVL := hide hv
  clear h hv
  go_enter Tryz.func169, Tryz.ntmps169
  go_wp2
  go_loopw [3, 10] (fun x i wr => ∃ (m R : Nat), m ≤ n ∧ i = .int .i64 m ∧ x = .int .i64 (R : Int) ∧ R ≤ 64 ∧ Hid (GB (pmS ms) m 0 R) ∧ Below w.heap.size w wr) (fun _ i _ => n - (intOf i).toNat)
  case atStart => exact ⟨0, 0, Nat.zero_le _, rfl, rfl, Nat.zero_le _, hide (gb_zero _), Below.refl _ _⟩
  case round =>
    obtain ⟨m, R, hm, rfl, rfl, hR, hG, B⟩ := hrel
    by_cases hlt : m < n
    · have hlt' : (m : Int) < (n : Int) := by omega
      have H := HH.out.below B
      obtain ⟨b, off, rfl, q0, q1, q2, q3, q4, q5, q6, q7⟩ := H.s.at m hlt
      have hmd := H.d m hlt
      obtain ⟨P, hP⟩ : ∃ P, P = (pmS ms).getD m zP := ⟨_, rfl⟩
      have hPM : P = (ms.getD m zMd).pm := hP.trans (pmS_at (by omega))
      have hvm := HVL.out m (by omega)
      rw [← hP] at hvm
      obtain ⟨_, _, _, vb, _, _, _, vbk⟩ := vld_en hvm
      have eB : (ms.getD m zMd).bn = P.bl.length := by rw [hPM]; show _ = (List.map _ _).length; rw [List.length_map]; exact hmd.b.1.symm
      have HBK := hide (show ∀ j, j < P.bl.length → ((ms.getD m zMd).bl.getD j zB).2.1 = (P.bl.getD j []).length from fun j hj => by rw [hPM]; exact (pm_bank hmd j (by omega)).1)
      have HMB := hide (fun (W : World) (hb : Below wr.heap.size wr W) => (MD.below hmd hb).b)
      have HP := hide hP
      rw [eB] at q2
      have HEB := hide eB
      have HB := hide B
      generalize ms.getD m zMd = M at *
      generalize M.ba = ba at *
      have al : Below wr.heap.size wr (wr.alloc (.cells #[.string M.nm, .slice M.ta M.tn M.tc, .slice ba P.bl.length M.bc, .slice M.da M.dn M.dc, .int .i64 M.bss, .slice M.ra M.rn M.rc, .slice M.ia M.im M.ic, .slice M.ea M.en M.ec] 104)) := (Below.refl _ _).alloc (Nat.le_refl _) _
      obtain ⟨g0, g1, g2, g3, g4, g5, g6, g7⟩ := (Blk.new wr #[.string M.nm, .slice M.ta M.tn M.tc, .slice ba P.bl.length M.bc, .slice M.da M.dn M.dc, .int .i64 M.bss, .slice M.ra M.rn M.rc, .slice M.ia M.im M.ic, .slice M.ea M.en M.ec] 104).eight
      have HAL := hide al
      clear B H hmd hP hPM eB al hvm
      generalize wr = wo at *
      go_wp2_with fail
      go_loopw [3, 17] (fun x i wx => ∃ (q R : Nat), q ≤ P.bl.length ∧ i = .int .i64 q ∧ x = .int .i64 (R : Int) ∧ R ≤ 64 ∧ Hid (GB (pmS ms) m q R) ∧ Below wo.heap.size wo wx) (fun _ i _ => P.bl.length - (intOf i).toNat)
      case atStart => exact ⟨0, R, Nat.zero_le _, rfl, rfl, hR, hG, HAL.out⟩
      case round =>
        obtain ⟨q, R', hq, rfl, rfl, hR', hG', B⟩ := hrel
        by_cases hlt2 : q < P.bl.length
        · have hlt2' : (q : Int) < (P.bl.length : Int) := by omega
          obtain ⟨_, _, hcb, _, _⟩ := HMB.out wr B
          obtain ⟨b2, off2, rfl, hc⟩ := hcb (by rw [HEB.out]; omega)
          have cb := hc q (by rw [HEB.out]; exact hlt2)
          rw [HBK.out q hlt2] at cb
          have hLq := vbk q hlt2
          obtain ⟨LQ, hLQ⟩ : ∃ LQ, LQ = (P.bl.getD q []).length := ⟨_, rfl⟩
          rw [← hLQ] at cb hLq
          have HG2 := hide (show GB (pmS ms) m (q + 1) (max R' LQ) by rw [hLQ, HP.out]; exact hG'.out.step (by omega) (by rw [← HP.out]; exact hlt2))
          have hmx : max (R' : Int) (LQ : Int) = ((max R' LQ : Nat) : Int) := by omega
          have HB2 := hide B
          generalize M.bl.getD q zB = bq at cb
          obtain ⟨bq1, bq2, bq3, bq4⟩ := bq
          dsimp only at cb
          clear hcb hc hLQ B
          go_wp2
          go_roundw
          case rel => exact ⟨q + 1, max R' LQ, by omega, by go_num, (by rw [← hmx]; congr 1; split <;> omega), by omega, HG2, HB2.out⟩
          case measure => simp [intOf]; omega
        · have hlt2' : ¬ (q : Int) < (P.bl.length : Int) := by omega
          have HG2 := hide (hG'.out.next (by rw [← HP.out]; omega))
          have HB2 := hide (HB.out.trans (B.mono HB.out.size))
          clear B
          go_wp2
          go_roundw
          case rel => exact ⟨m + 1, R', by omega, by go_num, rfl, hR', HG2, HB2.out⟩
          case measure => simp [intOf]; omega
    · have hlt' : ¬ (m : Int) < (n : Int) := by omega
      have HG := hide (show GB (pmS ms) (pmS ms).length 0 R by rw [hpl, ← show m = n by omega]; exact hG.out)
      have HB := hide B
      clear B hG
      go_wp2
      go_ret
      exact ⟨R, rfl, by first | exact HG.out | (have := HG.out; rw [hpl] at this; exact this), HB.out⟩
set_option maxHeartbeats 2000000 in
theorem placeS_any (g : Nat) (x : Int) (a : Option Addr) (n cap : Nat) (w : World) (h : Blk w g #[.int .i64 x, .func (.func 187) #[] #[]] 266) (hx0 : 0 ≤ x) (hx1 : x ≤ 1000000) (hn : n ≤ 65535) :
    Calls Tryz.prog 230 #[.pointer (some ⟨g, 0, none⟩), .slice a n cap] w fun e w' => e = .returned (.int .i64 x) ∧ Blk w' g #[.int .i64 (x + rnd (4 * (n : Int))), .func (.func 187) #[] #[]] 266 ∧ Turn (fun j => j = g) w w' := by
  have c0 : w.cell? ⟨g, 0, none⟩ = some (.int .i64 x) := h.cell 0
  have c1 : w.cell? ⟨g, 1, none⟩ = some (.func (.func 187) #[] #[]) := h.cell 1
  have f0 := h.frozen 0
  have rR := rnd_range (x := 4 * (n : Int)) (by omega)
  obtain ⟨RR, hRR⟩ : ∃ RR, RR = rnd (4 * (n : Int)) := ⟨_, rfl⟩
  have HW := hide (fun W => wordBytes_any a n cap W (by omega))
  rw [← hRR] at rR HW ⊢
  have hw : IntKind.i64.wrap (x + RR) = x + RR := wraps62 _ (by omega) (by omega)
  have HF := hide (show Blk ((w.setCell ⟨g, 0, none⟩ (.int .i64 (x + RR))).drew) g #[.int .i64 (x + RR), .func (.func 187) #[] #[]] 266 ∧ Turn (fun j => j = g) w ((w.setCell ⟨g, 0, none⟩ (.int .i64 (x + RR))).drew) from ⟨h.set 0 (.int .i64 (x + RR)), turn_d1 (turn_set w g 0 (.int .i64 (x + RR)))⟩)
  clear h hRR
  go_enter Tryz.func230, Tryz.ntmps230
  go_wp2_with fail
  go_region_law (first
    | (go_simp; go_at_call 187; refine (HW.out _).mono ?_; rintro e wz ⟨rfl, rfl⟩))
  all_goals
    go_wp2
    go_ret
    exact ⟨rfl, HF.out.1, HF.out.2⟩
set_option maxHeartbeats 2000000 in
theorem placeI_any (g : Nat) (x v : Int) (w : World) (h : Blk w g #[.int .i64 x, .func (.func 229) #[] #[]] 268) (hx0 : 0 ≤ x) (hx1 : x ≤ 1000000) (hv0 : 0 ≤ v) (hv1 : v ≤ 1000000) :
    Calls Tryz.prog 232 #[.pointer (some ⟨g, 0, none⟩), .int .i64 v] w fun e w' => e = .returned (.int .i64 x) ∧ Blk w' g #[.int .i64 (x + rnd v), .func (.func 229) #[] #[]] 268 ∧ Turn (fun j => j = g) w w' := by
  have c0 : w.cell? ⟨g, 0, none⟩ = some (.int .i64 x) := h.cell 0
  have c1 : w.cell? ⟨g, 1, none⟩ = some (.func (.func 229) #[] #[]) := h.cell 1
  have f0 := h.frozen 0
  have rR := rnd_range hv0
  obtain ⟨RR, hRR⟩ : ∃ RR, RR = rnd v := ⟨_, rfl⟩
  have HW := hide (fun W => roundUp_any v W hv0 (by omega))
  rw [← hRR] at rR HW ⊢
  have hw : IntKind.i64.wrap (x + RR) = x + RR := wraps62 _ (by omega) (by omega)
  have HF := hide (show Blk ((w.setCell ⟨g, 0, none⟩ (.int .i64 (x + RR))).drew) g #[.int .i64 (x + RR), .func (.func 229) #[] #[]] 268 ∧ Turn (fun j => j = g) w ((w.setCell ⟨g, 0, none⟩ (.int .i64 (x + RR))).drew) from ⟨h.set 0 (.int .i64 (x + RR)), turn_d1 (turn_set w g 0 (.int .i64 (x + RR)))⟩)
  clear h hRR
  go_enter Tryz.func232, Tryz.ntmps232
  go_wp2_with fail
  go_region_law (first
    | (go_simp; go_at_call 229; refine (HW.out _).mono ?_; rintro e wz ⟨rfl, rfl⟩))
  all_goals
    go_wp2
    go_ret
    exact ⟨rfl, HF.out.1, HF.out.2⟩
def bkx (P : PMod) (x : Int) (k : Nat) : List Int := (List.range k).map fun j => x + fsum P j
theorem bkx_len (P : PMod) (x : Int) (k : Nat) : (bkx P x k).length = k := by simp [bkx]
theorem bkx_succ (P : PMod) (x : Int) (k : Nat) : bkx P x (k + 1) = bkx P x k ++ [x + fsum P k] := by simp [bkx, List.range_succ]
set_option maxHeartbeats 4000000 in
theorem placeAll_any (g : Nat) (x : Int) (P : PMod) (ba : Option Addr) (bc : Nat) (bl : List Bk) (w0 w : World) (h : Blk w g #[.int .i64 x, .func (.func 187) #[] #[]] 266) (hP : mdoP P = 0) (hx0 : 0 ≤ x) (hx1 : x ≤ 900000) (hB : Below w0.heap.size w0 w) (hg : w0.heap.size ≤ g) (hb : BKS w0 ba P.bl.length bc bl) (hlen : ∀ j, j < P.bl.length → (bl.getD j zB).2.1 = (P.bl.getD j []).length) :
    Calls Tryz.prog 231 #[.pointer (some ⟨g, 0, none⟩), .slice ba P.bl.length bc] w fun e w' => ∃ a' c', e = .returned (.slice a' P.bl.length c') ∧ OG 3 1 clI w' w.heap.size (.slice a' P.bl.length c') (bkx P x P.bl.length) ∧ Blk w' g #[.int .i64 (x + fsum P P.bl.length), .func (.func 187) #[] #[]] 266 ∧ Turn (fun j => j = g) w w' := by
  obtain ⟨iI, hiI, hz0, hz1, hz2⟩ := info_parts infoI
  obtain ⟨_, _, _, vb, _, _, _, vbk⟩ := vld_en hP
  have HFS := hide (fun k hk => fsum_range hP k hk)
  have HBB := hide (fun (W : World) (t : Turn (fun j => j = g) w W) => hb.below (below_turn hB t (fun j hj => by have e : j = g := hj; omega) hB.size))
  have HLEN := hide hlen
  have hgl := h.lt
  have HH := hide h
  clear h hb hlen hB hP
  go_enter Tryz.func231, Tryz.ntmps231
  go_wp2
  go_loopw [5, 10] (fun v i wr => ∃ (q : Nat) (a' : Option Addr) (c' : Nat), q ≤ P.bl.length ∧ i = .int .i64 q ∧ v = .slice a' q c' ∧ OG 3 1 clI wr w.heap.size (.slice a' q c') (bkx P x q) ∧ Blk wr g #[.int .i64 (x + fsum P q), .func (.func 187) #[] #[]] 266 ∧ Turn (fun j => j = g) w wr) (fun _ i _ => P.bl.length - (intOf i).toNat)
  case atStart => exact ⟨0, none, 0, Nat.zero_le _, rfl, rfl, og_nil _ _ _ _ _, by have := HH.out; rw [show x + fsum P 0 = x by simp [fsum]]; exact this, Turn.refl _ _⟩
  case round =>
    obtain ⟨q, a', c', hq, rfl, rfl, O, B, T⟩ := hrel
    by_cases hlt : q < P.bl.length
    · have hlt' : (q : Int) < (P.bl.length : Int) := by omega
      obtain ⟨_, _, hcb, _, _⟩ := HBB.out wr T
      obtain ⟨b2, off2, rfl, hc⟩ := hcb (by omega)
      have cb := hc q hlt
      rw [HLEN.out q hlt] at cb
      have hLq := vbk q hlt
      obtain ⟨LQ, hLQ⟩ : ∃ LQ, LQ = (P.bl.getD q []).length := ⟨_, rfl⟩
      rw [← hLQ] at cb hLq
      have rq := HFS.out q (by omega)
      have HFE := hide (show x + fsum P q + rnd (4 * (LQ : Int)) = x + fsum P (q + 1) by rw [hLQ]; show _ = x + (fsum P q + rnd (4 * ((P.bl.getD q []).length : Int))); omega)
      have HSU := hide (bkx_succ P x q)
      obtain ⟨xq, hxq⟩ : ∃ xq, xq = x + fsum P q := ⟨_, rfl⟩
      rw [← hxq] at HFE HSU B
      have rxq : 0 ≤ xq ∧ xq ≤ 1000000 := by omega
      generalize bl.getD q zB = bq at cb
      obtain ⟨bq1, bq2, bq3, bq4⟩ := bq
      dsimp only at cb
      have HPL := hide (placeS_any g xq bq1 LQ bq3 wr B (by omega) (by omega) (by omega))
      have HQ := hide (And.intro O T)
      clear hcb hc hLQ hxq O B T
      go_wp2_with fail
      refine HPL.out.mono ?_
      rintro e w1 ⟨rfl, B1, T1⟩
      obtain ⟨O, T⟩ := HQ.out
      have O1 := O.turn T1 (fun j hj => by have e : j = g := hj; omega)
      have T2 := T.trans T1
      have al : Below w1.heap.size w1 (w1.alloc (.cells #[.int .i64 xq] 3)) := (Below.refl _ _).alloc (Nat.le_refl _) _
      have HOW := hide (show (w1.alloc (.cells #[.int .i64 xq] 3)).ownsRow w.heap.size 3 1 (.slice a' q c') q ((bkx P x q).flatMap clI) by have := O1.below al; unfold OG at this; rw [bkx_len] at this; exact this)
      have hs1 := T2.size
      have HR := hide (And.intro (O1.below al) (And.intro (B1.below al) (T2.trans (turn_below al))))
      clear O T O1 T2 al B1 T1 HPL HQ cb
      go_wp2_with (at_builtin; refine wpList_append_own _ rfl _ _ 24 rfl w.heap.size 3 iI (.int .i64 0) 1 8 Tryz.underlying24 hiI hz0 hz1 hz2 rfl (by decide) (.slice a' q c') q ((bkx P x q).flatMap clI) rfl HOW.out ⟨w1.heap.size, 0, none⟩ 1 1 (clI xq) rfl rfl (cells_new w1 _ _ (clI xq) rfl) (by intro u hu; simp [clI] at hu; subst hu; rfl) (by unfold maxLen; omega) (by omega) (by simp; omega) ?_; intro v' w4 hown hgr _)
      obtain ⟨O1, B1, T1⟩ := HR.out
      have hrow : ∀ j, (Value.slice a' q c').ownBlock = some j → w.heap.size ≤ j := fun j hj => (O1.lt j hj).1
      have O4 : OG 3 1 clI w4 w.heap.size v' (bkx P x (q + 1)) := by
        unfold OG
        rw [bkx_len, HSU.out, List.flatMap_append, List.flatMap_singleton]
        exact hown
      have B4 := blk_grown B1 hgr (fun e => by have := hrow _ e.symm; omega)
      have T4 := turn_grown T1 hgr hrow
      obtain ⟨a4, c4, rfl⟩ := og_shape O4
      rw [bkx_len] at O4
      have HX := hide (And.intro O4 (And.intro B4 T4))
      have HL := hide (bkx_len P x (q + 1))
      clear O1 B1 T1 hrow O4 B4 T4 hown hgr HR HOW
      go_roundw
      case rel => exact ⟨q + 1, a4, c4, by omega, by go_num, by rw [HL.out], HX.out.1, by rw [← HFE.out]; exact HX.out.2.1, HX.out.2.2⟩
      case measure => simp [intOf]; omega
    · have hlt' : ¬ (q : Int) < (P.bl.length : Int) := by omega
      have e : q = P.bl.length := by omega
      rw [e] at O B
      have HX := hide (And.intro O (And.intro B T))
      have HE := hide e
      clear O B T e
      go_wp2
      go_ret
      exact ⟨a', c', by rw [← HE.out]; rfl, HX.out.1, HX.out.2.1, HX.out.2.2⟩
structure Tf (w : World) (base g n : Nat) (f : Nat → TB) : Prop where
  head : ∃ cs, Blk w g cs 189 ∧ cs.size = n ∧ ∀ i, i < n → cs[i]? = some (svT (f i))
  rows : ∀ i, i < n → OG 71 3 clG w base (svT (f i)) (f i).1
  apart : ∀ i j, i < n → j < n → i ≠ j → ∀ k, (svT (f i)).ownBlock = some k → (svT (f j)).ownBlock ≠ some k
theorem Tf.below {w w' : World} {base g n : Nat} {f : Nat → TB} (h : Tf w base g n f) (hb : Below w.heap.size w w') : Tf w' base g n f :=
  ⟨by obtain ⟨cs, h1, h2, h3⟩ := h.head; exact ⟨cs, h1.below hb, h2, h3⟩, fun i hi => (h.rows i hi).below hb, h.apart⟩
theorem Tf.cell {w : World} {base g n : Nat} {f : Nat → TB} (h : Tf w base g n f) (i : Nat) (hi : i < n) : w.cell? ⟨g, i, none⟩ = some (svT (f i)) ∧ w.frozen? ⟨g, i, none⟩ = false := by
  obtain ⟨cs, h1, h2, h3⟩ := h.head
  exact ⟨(h1.cell i).trans (h3 i hi), h1.frozen i⟩
theorem Tf.lt {w : World} {base g n : Nat} {f : Nat → TB} (h : Tf w base g n f) : g < w.heap.size ∧ ∀ i, i < n → ∀ k, (svT (f i)).ownBlock = some k → base ≤ k ∧ k < w.heap.size := by
  obtain ⟨cs, h1, _⟩ := h.head
  exact ⟨h1.lt, fun i hi => (h.rows i hi).lt⟩
theorem Tf.update {W W' : World} {base g n m : Nat} {f : Nat → TB} {x : TB} {g4 c4 : Nat} (h : Tf W base g n f) (hm : m < n) (hg : W.grownBy W' (svT (f m)).ownBlock) (hx : OG 71 3 clG W' base (svT x) x.1) (hs : svT x = .slice (some ⟨g4, 0, none⟩) x.1.length c4) (hat : (svT (f m)).ownBlock = some g4 ∨ g4 = W.heap.size) : Tf (W'.setCell ⟨g, m, none⟩ (svT x)) base g n (fun i => if i = m then x else f i) := by
  obtain ⟨cs, h1, h2, h3⟩ := h.head
  have hk : ∀ k, (svT (f m)).ownBlock = some k → k ≠ g := fun k hk e => by subst e; exact kind_no (h.rows m hm) hk h1 (by decide)
  have hb : Blk W' g cs 189 := blk_grown h1 hg (fun e => hk g e.symm rfl)
  have tx := turn_set W' g m (svT x)
  have hng : ∀ (u : Value) (ys : List Tg), OG 71 3 clG W' base u ys → ∀ k, u.ownBlock = some k → ¬ (fun j => j = g) k := fun u ys ho k hk' e => by
    have e' : k = g := e
    subst e'
    exact kind_no ho hk' hb (by decide)
  refine ⟨⟨cs.setIfInBounds m (svT x), hb.set m (svT x), by simp [h2], fun i hi => ?_⟩, fun i hi => ?_, fun i j hi hj hij k hk1 => ?_⟩
  · by_cases e : i = m
    · subst e; simp [h2, hi]
    · simp only [e, if_false]
      rw [Array.getElem?_setIfInBounds_ne (fun e' => e e'.symm)]
      exact h3 i hi
  · by_cases e : i = m
    · simp only [e, if_true]
      exact hx.kept tx (hng _ _ hx)
    · simp only [e, if_false]
      have o := (h.rows i hi).kept' hg (fun k hk' e' => h.apart i m hi hm e k hk' e')
      exact o.kept tx (hng _ _ o)
  · have hx4 : (svT x).ownBlock = some g4 := by rw [hs]; rfl
    by_cases e1 : i = m
    · have e2 : ¬ j = m := fun e => hij (e1.trans e.symm)
      simp only [e1, e2, if_true, if_false] at hk1 ⊢
      rw [hx4] at hk1
      simp at hk1
      subst hk1
      rcases hat with h5 | h5
      · exact fun e => h.apart m j hm hj (fun e' => e2 e'.symm) g4 h5 e
      · exact fun e => by have := (h.lt.2 j hj g4 e).2; omega
    · by_cases e2 : j = m
      · simp only [e1, e2, if_true, if_false] at hk1 ⊢
        rw [hx4]
        intro e
        simp at e
        subst e
        rcases hat with h5 | h5
        · exact h.apart i m hi hm e1 g4 hk1 h5
        · have := (h.lt.2 i hi g4 hk1).2; omega
      · simp only [e1, e2, if_false] at hk1 ⊢
        exact h.apart i j hi hj hij k hk1
theorem made_rows {w : World} {base g n : Nat} (h : w.ownsRow base 189 1 (.slice (some ⟨g, 0, none⟩) n n) n (madeCells (Value.cells (.slice none 0 0)) (n * 1)).toList) (lo : Nat) : Tf w lo g n (fun _ => ([], none, 0)) := by
  obtain ⟨hl, h | ⟨g', cap, cur, hv, hb, hh, h1, h2, h3, h4⟩⟩ := h
  · simp at h
  · simp at hv
    obtain ⟨rfl, rfl⟩ := hv
    have e : cur.toList = (madeCells (Value.cells (.slice none 0 0)) (n * 1)).toList := by
      rw [← h4, List.take_of_length_le (by simp [h3])]
    have e2 : cur = madeCells (Value.cells (.slice none 0 0)) (n * 1) := Array.toList_inj.1 e
    refine ⟨⟨cur, hh, by simpa using h3, fun i hi => ?_⟩, fun i hi => og_nil _ _ _ _ _, fun i j _ _ _ k hk => by simp [svT, Value.ownBlock] at hk⟩
    rw [e2]
    simp [madeCells, Value.cells, svT, hi, Nat.mod_one]
theorem Tf.otg {w : World} {base g n c : Nat} {f : Nat → TB} (h : Tf w base g n f) (hg : base ≤ g) (hn : n ≤ maxLen) (hc : c = n) : OTg w base base (.slice (some ⟨g, 0, none⟩) ((List.range n).map f).length c) ((List.range n).map f) := by
  subst hc
  obtain ⟨cs, h1, h2, h3⟩ := h.head
  refine ⟨⟨?_, .inr ⟨g, c, cs, by simp, hg, h1, by simp, hn, by simpa using h2, ?_⟩⟩, fun x hx => ?_, ?_⟩
  · rw [show ((List.range c).map f).flatMap clTB = (List.range c).map (fun i => svT (f i)) by rw [List.flatMap_map]; exact flat_one _ _]
    simp
  · apply List.ext_getElem?
    intro i
    rw [show ((List.range c).map f).flatMap clTB = (List.range c).map (fun i => svT (f i)) by rw [List.flatMap_map]; exact flat_one _ _]
    by_cases hi : i < c
    · rw [List.getElem?_take, if_pos (by simpa using hi), Array.getElem?_toList, h3 i hi]
      simp [hi]
    · rw [List.getElem?_eq_none (by simp; omega), List.getElem?_eq_none (by simp; omega)]
  · simp at hx
    obtain ⟨i, hi, rfl⟩ := hx
    exact h.rows i hi
  · rw [List.pairwise_iff_getElem]
    intro i j hi hj hij k hk
    simp at hi hj hk ⊢
    exact h.apart i j hi hj (by omega) k hk
set_option maxHeartbeats 8000000 in
theorem targetsOf_any (a : Option Addr) (n cap : Nat) (ms : List Md) (w : World) (h : MSD w a n cap ms) (hv : vlds (pmS ms)) (hn : n ≤ 4) :
    Calls Tryz.prog 168 #[.slice a n cap] w fun e w' => Below w.heap.size w w' ∧ ((¬ imps (pmS ms) ∧ ∃ v, e = .returned (.tuple #[v, .bool false])) ∨ (imps (pmS ms) ∧ ∃ f, e = .returned (.tuple #[.slice (some ⟨w.heap.size, 0, none⟩) n n, .bool true]) ∧ Tf w' w.heap.size w.heap.size n f ∧ ∀ i, i < n → (f i).1 = tgs (pmS ms) ((pmS ms).getD i zP))) := by
  obtain ⟨iT, hiT, hzT0, hzT1, hzT2⟩ := info_parts infoTB
  obtain ⟨iG, hiG, hzG0, hzG1, hzG2⟩ := info_parts infoG
  have hl := h.s.1
  have hpl : (pmS ms).length = n := by rw [pmS_len, hl]
  have HH := hide h
  have HVL := hide hv
  clear h hv
  go_enter Tryz.func168, Tryz.ntmps168
  go_wp2_with (at_make; refine wpList_make_full _ rfl _ _ 34 rfl w.heap.size 189 iT (.slice none 0 0) 1 Tryz.underlying34 hiT hzT0 hzT1 .i64 .i64 _ _ n rfl rfl rfl rfl (by rw [hzT2]; omega) (by unfold maxLen; omega) (Nat.le_refl _) ?_; intro w1 hown hgr)
  have T0 := made_rows hown w.heap.size
  have B0 := below_grown hgr
  have HT0 := hide (And.intro T0 B0)
  clear hown hgr T0 B0
  go_loopw [16] (fun i wr => ∃ (m : Nat) (f : Nat → TB), m ≤ n ∧ i = .int .i64 m ∧ Tf wr w.heap.size w.heap.size n f ∧ (∀ i, i < n → (f i).1 = if i < m then tgs (pmS ms) ((pmS ms).getD i zP) else []) ∧ (∀ j, j < m → tgOk (pmS ms) ((pmS ms).getD j zP)) ∧ Below w.heap.size w wr) (fun i _ => n - (intOf i).toNat)
  case atStart => exact ⟨0, fun _ => ([], none, 0), Nat.zero_le _, rfl, HT0.out.1, fun i hi => by simp, fun j hj => absurd hj (by omega), HT0.out.2⟩
  case round =>
    clear HT0
    obtain ⟨m, f, hm, rfl, F, hf, hk, B⟩ := hrel
    by_cases hlt : m < n
    · have hlt' : (m : Int) < (n : Int) := by omega
      have H := HH.out.below B
      obtain ⟨b, off, rfl, q0, q1, q2, q3, q4, q5, q6, q7⟩ := H.s.at m hlt
      have hmd := H.d m hlt
      have hvm := HVL.out m (by omega)
      obtain ⟨P, hP⟩ : ∃ P, P = (pmS ms).getD m zP := ⟨_, rfl⟩
      have hPM : P = (ms.getD m zMd).pm := hP.trans (pmS_at (by omega))
      rw [← hP] at hvm
      have vi := (vld_en hvm).2.1
      have eI : (ms.getD m zMd).im = P.ss.length := by rw [hPM]; exact hmd.i.1.symm
      have eS : (ms.getD m zMd).ss = P.ss := by rw [hPM]; rfl
      have HMI := hide (fun (W : World) (hb : Below w.heap.size w W) => (HH.out.d m hlt).i.below hb)
      rw [eI] at q6
      rw [eI, eS] at HMI
      have HP := hide hP
      have HB := hide (And.intro B (And.intro F (And.intro hf hk)))
      generalize ms.getD m zMd = M at *
      generalize M.ia = ia at *
      have al : Below wr.heap.size wr (wr.alloc (.cells #[.string M.nm, .slice M.ta M.tn M.tc, .slice M.ba M.bn M.bc, .slice M.da M.dn M.dc, .int .i64 M.bss, .slice M.ra M.rn M.rc, .slice ia P.ss.length M.ic, .slice M.ea M.en M.ec] 104)) := (Below.refl _ _).alloc (Nat.le_refl _) _
      obtain ⟨g0, g1, g2, g3, g4, g5, g6, g7⟩ := (Blk.new wr #[.string M.nm, .slice M.ta M.tn M.tc, .slice M.ba M.bn M.bc, .slice M.da M.dn M.dc, .int .i64 M.bss, .slice M.ra M.rn M.rc, .slice ia P.ss.length M.ic, .slice M.ea M.en M.ec] 104).eight
      have HAL := hide (And.intro al (F.below al))
      clear B H hmd hP hPM eI eS al hvm F hf hk
      generalize wr = wo at *
      go_wp2_with fail
      go_loopw [24] (fun i wx => ∃ (q : Nat) (f : Nat → TB), q ≤ P.ss.length ∧ i = .int .i64 q ∧ Tf wx w.heap.size w.heap.size n f ∧ (∀ i, i < n → (f i).1 = if i < m then tgs (pmS ms) ((pmS ms).getD i zP) else if i = m then tgN (pmS ms) P q else []) ∧ (∀ j, j < q → (tgOf (pmS ms) (P.ss.getD j zS)).isSome = true) ∧ Turn (fun j => w.heap.size ≤ j) wo wx) (fun i _ => P.ss.length - (intOf i).toNat)
      case atStart => exact ⟨0, f, Nat.zero_le _, rfl, HAL.out.2, fun i hi => by
        rw [HB.out.2.2.1 i hi]
        by_cases e : i < m
        · simp [e]
        · by_cases e2 : i = m
          · simp [e2, tgN]
          · simp [e, e2], fun j hj => absurd hj (by omega), turn_below HAL.out.1⟩
      case round =>
        obtain ⟨q, f', hq, rfl, F, hf, hk, T⟩ := hrel
        have B := below_turn HB.out.1 T (fun j hj => hj) HB.out.1.size
        by_cases hlt2 : q < P.ss.length
        · have hlt2' : (q : Int) < (P.ss.length : Int) := by omega
          obtain ⟨hsl, _, hsz, hcs, _⟩ := HMI.out wr B
          obtain ⟨b2, off2, rfl, hc⟩ := hcs (by omega)
          have c0 := hc q hlt2
          have hss : (P.ss.getD q zS).size ≤ 1048576 := hsz _ (by simp [List.getD_eq_getElem?_getD, hlt2])
          have HR := hide ((HH.out.below B).resI HVL.out hn (P.ss.getD q zS) hss)
          have HTS := hide (fun t (h : tgOf (pmS ms) (P.ss.getD q zS) = some t) => tgN_succ (ps := pmS ms) (P := P) q h)
          have HBAD := hide (fun (h : tgOf (pmS ms) (P.ss.getD q zS) = none) => (show ¬ imps (pmS ms) from fun hi => by have := hi m (by omega) q (by rw [← HP.out]; exact hlt2); rw [← HP.out, h] at this; cases this))
          have HGO := hide (fun t (h : tgOf (pmS ms) (P.ss.getD q zS) = some t) => (show ∀ j, j < q + 1 → (tgOf (pmS ms) (P.ss.getD j zS)).isSome = true from fun j hj => by
            by_cases e : j = q
            · subst e; rw [h]; rfl
            · exact hk j (by omega)))
          have hX : (f' m).1 = tgN (pmS ms) P q := by rw [hf m hlt, if_neg (by omega), if_pos rfl]
          have hsv : svT (f' m) = .slice (f' m).2.1 q (f' m).2.2 := by unfold svT; rw [hX, tgN_len]
          have HQ := hide (And.intro F (And.intro hf (And.intro T B)))
          have hgw := HB.out.1.size
          have hTs := T.size
          generalize P.ss.getD q zS = str at *
          clear F hk T B hc hsz hcs
          go_wp2_with fail
          refine HR.out.mono ?_
          rintro e w1 ⟨rfl, hb1⟩
          obtain ⟨F, hf, T, B⟩ := HQ.out
          have B1 := B.trans (hb1.mono B.size)
          cases ho : tgOf (pmS ms) str with
          | none =>
            have HF := hide (And.intro (B1.trans (((Below.refl _ w1).alloc (Nat.le_refl _) (.cells #[.int .i64 0, .int .i64 0, .int .i64 0] 71)).mono B1.size)) (HBAD.out ho))
            clear F hf T B hb1 B1 HQ HR HTS HBAD HGO c0 hX hsv
            unfold tgV
            go_wp2
            go_ret2
            exact ⟨HF.out.1, .inl ⟨HF.out.2, _, rfl⟩⟩
          | some t =>
            obtain ⟨t1, t2, t3⟩ := t
            have al1 : Below w1.heap.size w1 (w1.alloc (.cells #[.int .i64 t1, .int .i64 t2, .int .i64 t3] 71)) := (Below.refl _ _).alloc (Nat.le_refl _) _
            have hs1 : (w1.alloc (.cells #[.int .i64 t1, .int .i64 t2, .int .i64 t3] 71)).heap.size = w1.heap.size + 1 := by simp
            have k1 := Blk.new w1 #[.int .i64 t1, .int .i64 t2, .int .i64 t3] 71
            have F1 := (F.below hb1).below al1
            have T1 := (T.trans (turn_below hb1)).trans (turn_below al1)
            have HT2 := hide (HTS.out _ ho)
            have HG2 := hide (HGO.out _ ho)
            obtain ⟨x0, x1, x2, _⟩ := k1.three
            generalize hW1 : w1.alloc (.cells #[.int .i64 t1, .int .i64 t2, .int .i64 t3] 71) = W1 at *
            have al2 : Below W1.heap.size W1 (W1.alloc (.cells #[.int .i64 t1, .int .i64 t2, .int .i64 t3] 71)) := (Below.refl _ _).alloc (Nat.le_refl _) _
            have F2a := F1.below al2
            have F2 : Tf (W1.alloc (.cells #[.int .i64 t1, .int .i64 t2, .int .i64 t3] 71)).drew w.heap.size w.heap.size n f' := ⟨F2a.head, F2a.rows, F2a.apart⟩
            have HCN := hide (show ∀ j u, (clG (t1, t2, t3))[j]? = some u → (W1.alloc (.cells #[.int .i64 t1, .int .i64 t2, .int .i64 t3] 71)).drew.cell? ((⟨w1.heap.size + 1, 0, none⟩ : Addr).add j) = some u by have := cells_new W1 _ 71 (clG (t1, t2, t3)) rfl; rw [hs1] at this; exact this)
            obtain ⟨p3, f3⟩ := F2a.cell m hlt
            rw [hsv] at p3
            obtain ⟨p1, f1⟩ := F1.cell m hlt
            obtain ⟨p2, f2⟩ := F2.cell m hlt
            have hsz1 := hb1.size
            rw [hsv] at p1 p2
            obtain ⟨A, hA⟩ : ∃ A, A = (f' m).2.1 := ⟨_, rfl⟩
            obtain ⟨C, hC⟩ : ∃ C, C = (f' m).2.2 := ⟨_, rfl⟩
            rw [← hA, ← hC] at p1 p2 p3 hsv
            have HOW := hide (show (W1.alloc (.cells #[.int .i64 t1, .int .i64 t2, .int .i64 t3] 71)).drew.ownsRow w.heap.size 71 3 (.slice A q C) q ((tgN (pmS ms) P q).flatMap clG) by have := F2.rows m hlt; unfold OG at this; rw [hsv, hX, tgN_len] at this; exact this)
            have HHD := hide (fun (w4 : World) (hgr : (W1.alloc (.cells #[.int .i64 t1, .int .i64 t2, .int .i64 t3] 71)).drew.grownBy w4 (Value.slice A q C).ownBlock) => (show w4.cell? ⟨w.heap.size, m, none⟩ = some (.slice A q C) ∧ w4.frozen? ⟨w.heap.size, m, none⟩ = false from by
              obtain ⟨cs, hc1, hc2, hc3⟩ := F2.head
              have hb4 := blk_grown hc1 hgr (fun e => by have := F2.rows m hlt; rw [hsv] at this; exact kind_no this e.symm hc1 (by decide))
              exact ⟨(hb4.cell m).trans ((hc3 m hlt).trans (by rw [hsv])), hb4.frozen m⟩))
            have HX := hide (And.intro F2 (And.intro hf (And.intro (turn_d1 (T1.trans (turn_below al2))) (And.intro hsv hX))))
            have HW1 := hide hW1
            have hgl := F1.lt.1
            clear F hf T B hb1 B1 HQ HR HTS HBAD HGO c0 al1 k1 F1 T1 al2 F2 F2a hX hsv hA hC hW1
            unfold tgV
            go_wp2_with fail
            rw [HW1.out]
            go_region_law (first
              | (refine step_append_lies _ rfl _ _ 189 rfl w.heap.size 71 iG (.agg #[.int .i64 0, .int .i64 0, .int .i64 0]) 3 24 Tryz.underlying189 hiG hzG0 hzG1 hzG2 rfl (by decide) (.slice A q C) q ((tgN (pmS ms) P q).flatMap clG) rfl HOW.out ⟨w1.heap.size + 1, 0, none⟩ 1 1 (clG (t1, t2, t3)) rfl rfl HCN.out (by intro u hu; simp [clG] at hu; rcases hu with rfl | rfl | rfl <;> rfl) (by decide) (by unfold maxLen; omega) (by omega) (by simp; omega) _ rfl ?_; intro g4 c4 w4 hown hgr hat hlt4; obtain ⟨p4, f4⟩ := HHD.out w4 hgr))
            all_goals
              obtain ⟨F2, hf, T2, hsv, hX⟩ := HX.out
              have hgr' := hgr
              rw [← hsv] at hgr' hat
              have O4 : OG 71 3 clG w4 w.heap.size (svT ((tgN (pmS ms) P (q + 1), some ⟨g4, 0, none⟩, c4) : TB)) (tgN (pmS ms) P (q + 1)) := by
                unfold OG svT
                rw [tgN_len, HT2.out, List.flatMap_append, List.flatMap_singleton]
                exact hown
              have U := F2.update (x := (tgN (pmS ms) P (q + 1), some ⟨g4, 0, none⟩, c4)) (g4 := g4) (c4 := c4) hlt hgr' O4 rfl (by simpa using hat)
              have T5 : Turn (fun j => w.heap.size ≤ j) wo (w4.setCell ⟨w.heap.size, m, none⟩ (svT ((tgN (pmS ms) P (q + 1), some ⟨g4, 0, none⟩, c4) : TB))) := by
                have t4 : Turn (fun j => w.heap.size ≤ j) _ w4 := ⟨hgr.os, hgr.tape, hgr.output, hgr.size, fun j hj hs => hgr.block j hj (fun e => hs (by have := (F2.lt.2 m hlt j (by rw [hsv]; exact e.symm)).1; exact this))⟩
                exact (T2.trans t4).trans ((turn_set w4 w.heap.size m _).mono (fun j hj => by have e : j = w.heap.size := hj; omega))
              have hsx : svT ((tgN (pmS ms) P (q + 1), some ⟨g4, 0, none⟩, c4) : TB) = .slice (some ⟨g4, 0, none⟩) (q + 1) c4 := by unfold svT; rw [tgN_len]
              rw [hsx] at U T5
              have HF := hide (And.intro U (And.intro (show ∀ i, i < n → ((fun i => if i = m then ((tgN (pmS ms) P (q + 1), some ⟨g4, 0, none⟩, c4) : TB) else f' i) i).1 = if i < m then tgs (pmS ms) ((pmS ms).getD i zP) else if i = m then tgN (pmS ms) P (q + 1) else [] from fun i hi => by
                by_cases e : i = m
                · simp [e]
                · simp only [e, if_false]; rw [hf i hi]; simp [e]) (And.intro HG2.out T5)))
              clear F2 hf T2 hsv hX hgr' hgr hown hat O4 U T5 hsx HX HOW HHD p4 f4 p1 p2 p3 f1 f2 f3 HCN x0 x1 x2
              go_wp2
              go_roundw
              case rel => exact ⟨q + 1, _, by omega, by go_num, HF.out.1, HF.out.2.1, HF.out.2.2.1, HF.out.2.2.2⟩
              case measure => simp [intOf]; omega
        · have hlt2' : ¬ (q : Int) < (P.ss.length : Int) := by omega
          have hqe : q = P.ss.length := by omega
          have HF := hide (And.intro B (And.intro F (And.intro (show ∀ i, i < n → (f' i).1 = if i < m + 1 then tgs (pmS ms) ((pmS ms).getD i zP) else [] from fun i hi => by
            rw [hf i hi]
            by_cases e : i < m
            · rw [if_pos e, if_pos (by omega)]
            · by_cases e2 : i = m
              · rw [if_neg e, if_pos e2, if_pos (by omega), e2, ← HP.out, hqe]; rfl
              · rw [if_neg e, if_neg e2, if_neg (by omega)]) (show ∀ j, j < m + 1 → tgOk (pmS ms) ((pmS ms).getD j zP) from fun j hj => by
            by_cases e : j = m
            · subst e; rw [← HP.out]; intro i hi; exact hk i (by omega)
            · exact HB.out.2.2.2 j (by omega)))))
          clear F hf hk T B hqe
          go_wp2
          go_roundw
          case rel => exact ⟨m + 1, f', by omega, by go_num, HF.out.2.1, HF.out.2.2.1, HF.out.2.2.2, HF.out.1⟩
          case measure => simp [intOf]; omega
    · have hlt' : ¬ (m : Int) < (n : Int) := by omega
      have HI := hide (show imps (pmS ms) from fun i hi => hk i (by omega))
      have HF := hide (And.intro B (And.intro F (show ∀ i, i < n → (f i).1 = tgs (pmS ms) ((pmS ms).getD i zP) from fun i hi => by rw [hf i hi, if_pos (by omega)])))
      clear B F hf hk
      go_wp2
      go_ret2
      exact ⟨HF.out.1, .inr (by first | exact ⟨HI.out, f, rfl, HF.out.2.1, HF.out.2.2⟩ | exact ⟨HI.out, rfl, f, HF.out.2.1, HF.out.2.2⟩)⟩
theorem rnd_rnd (x : Int) : rnd (rnd x) = rnd x := by unfold rnd; omega
theorem rnd_whole {x : Int} (h : x % 32 = 0) : rnd x = x := by unfold rnd; omega
def alF (x : Int) : Array Value := #[.int .i64 x, .func (.func 187) #[] #[]]
def alR (x : Int) : Array Value := #[.int .i64 x, .func (.func 229) #[] #[]]
structure Lo (w W : World) (s c k d fx rx : Int) (cs : Array Value) : Prop where
  be : Below w.heap.size w W
  k0 : Blk W w.heap.size #[.int .i64 s, .int .i64 c, .int .i64 k, .int .i64 d] 44
  k1 : Blk W (w.heap.size + 1) zL 36
  k2 : Blk W (w.heap.size + 2) (alF fx) 266
  k3 : Blk W (w.heap.size + 3) (alR rx) 268
  k4 : Blk W (w.heap.size + 4) cs 36
theorem Lo.sz {w W : World} {s c k d fx rx : Int} {cs : Array Value} (h : Lo w W s c k d fx rx cs) : w.heap.size + 5 ≤ W.heap.size := h.k4.lt
theorem Lo.below {w W W' : World} {s c k d fx rx : Int} {cs : Array Value} (h : Lo w W s c k d fx rx cs) (hb : Below W.heap.size W W') : Lo w W' s c k d fx rx cs := ⟨h.be.trans (hb.mono h.be.size), h.k0.below hb, h.k1.below hb, h.k2.below hb, h.k3.below hb, h.k4.below hb⟩
theorem Lo.set {w W : World} {s c k d fx rx : Int} {cs : Array Value} (h : Lo w W s c k d fx rx cs) (i : Nat) (v : Value) : Lo w (W.setCell ⟨w.heap.size + 4, i, none⟩ v) s c k d fx rx (cs.setIfInBounds i v) := by
  have t := turn_set W (w.heap.size + 4) i v
  exact ⟨below_turn h.be t (fun k hk => by omega) h.be.size, turn_blk t h.k0 (by omega), turn_blk t h.k1 (by omega), turn_blk t h.k2 (by omega), turn_blk t h.k3 (by omega), h.k4.set i v⟩
theorem Lo.other {w W : World} {s c k d fx rx : Int} {cs : Array Value} (h : Lo w W s c k d fx rx cs) {g : Nat} (hg : w.heap.size + 5 ≤ g) (i : Nat) (v : Value) : Lo w (W.setCell ⟨g, i, none⟩ v) s c k d fx rx cs := by
  have t := turn_set W g i v
  exact ⟨below_turn h.be t (fun k hk => by omega) h.be.size, turn_blk t h.k0 (by omega), turn_blk t h.k1 (by omega), turn_blk t h.k2 (by omega), turn_blk t h.k3 (by omega), turn_blk t h.k4 (by omega)⟩
theorem Lo.callF {w W W' : World} {s c k d fx rx fx' : Int} {cs : Array Value} (h : Lo w W s c k d fx rx cs) (t : Turn (fun j => j = w.heap.size + 2) W W') (k2 : Blk W' (w.heap.size + 2) (alF fx') 266) : Lo w W' s c k d fx' rx cs :=
  ⟨below_turn h.be t (fun k hk => by omega) h.be.size, turn_blk t h.k0 (by omega), turn_blk t h.k1 (by omega), k2, turn_blk t h.k3 (by omega), turn_blk t h.k4 (by omega)⟩
theorem Lo.callR {w W W' : World} {s c k d fx rx rx' : Int} {cs : Array Value} (h : Lo w W s c k d fx rx cs) (t : Turn (fun j => j = w.heap.size + 3) W W') (k3 : Blk W' (w.heap.size + 3) (alR rx') 268) : Lo w W' s c k d fx rx' cs :=
  ⟨below_turn h.be t (fun k hk => by omega) h.be.size, turn_blk t h.k0 (by omega), turn_blk t h.k1 (by omega), turn_blk t h.k2 (by omega), k3, turn_blk t h.k4 (by omega)⟩
theorem Lo.grown {w W W' : World} {s c k d fx rx : Int} {cs : Array Value} {row : Option Nat} (h : Lo w W s c k d fx rx cs) (hg : W.grownBy W' row) (hr : ∀ j, row = some j → w.heap.size + 5 ≤ j) : Lo w W' s c k d fx rx cs := by
  have t : Turn (fun j => row = some j) W W' := ⟨hg.os, hg.tape, hg.output, hg.size, fun j hj hs => hg.block j hj (fun e => hs e.symm)⟩
  exact ⟨below_turn h.be t (fun j hj => by have := hr j hj; omega) h.be.size, turn_blk t h.k0 (fun e => by have := hr _ e; omega), turn_blk t h.k1 (fun e => by have := hr _ e; omega), turn_blk t h.k2 (fun e => by have := hr _ e; omega), turn_blk t h.k3 (fun e => by have := hr _ e; omega), turn_blk t h.k4 (fun e => by have := hr _ e; omega)⟩
theorem lo_new (w : World) (s c k d : Int) : Lo w (((((w.alloc (.cells #[.int .i64 s, .int .i64 c, .int .i64 k, .int .i64 d] 44)).alloc (.cells #[.slice none 0 0, .int .i64 0, .slice none 0 0, .int .i64 0, .int .i64 0, .slice none 0 0] 36)).alloc (.cells #[.int .i64 0, .func (.func 187) #[] #[]] 266)).alloc (.cells #[.int .i64 65536, .func (.func 229) #[] #[]] 268)).alloc (.cells #[.slice none 0 0, .int .i64 0, .slice none 0 0, .int .i64 0, .int .i64 0, .slice none 0 0] 36)) s c k d 0 65536 zL := by
  have k0 := Blk.new w #[.int .i64 s, .int .i64 c, .int .i64 k, .int .i64 d] 44
  have b0 : Below w.heap.size w (w.alloc (.cells #[.int .i64 s, .int .i64 c, .int .i64 k, .int .i64 d] 44)) := (Below.refl _ _).alloc (Nat.le_refl _) _
  have s0 : (w.alloc (.cells #[.int .i64 s, .int .i64 c, .int .i64 k, .int .i64 d] 44)).heap.size = w.heap.size + 1 := by simp
  generalize w.alloc (.cells #[.int .i64 s, .int .i64 c, .int .i64 k, .int .i64 d] 44) = W0 at *
  have k1 := Blk.new W0 #[.slice none 0 0, .int .i64 0, .slice none 0 0, .int .i64 0, .int .i64 0, .slice none 0 0] 36
  have b1 : Below W0.heap.size W0 (W0.alloc (.cells #[.slice none 0 0, .int .i64 0, .slice none 0 0, .int .i64 0, .int .i64 0, .slice none 0 0] 36)) := (Below.refl _ _).alloc (Nat.le_refl _) _
  have s1 : (W0.alloc (.cells #[.slice none 0 0, .int .i64 0, .slice none 0 0, .int .i64 0, .int .i64 0, .slice none 0 0] 36)).heap.size = w.heap.size + 2 := by simp [s0]
  rw [s0] at k1
  generalize W0.alloc (.cells #[.slice none 0 0, .int .i64 0, .slice none 0 0, .int .i64 0, .int .i64 0, .slice none 0 0] 36) = W1 at *
  have k2 := Blk.new W1 #[.int .i64 0, .func (.func 187) #[] #[]] 266
  have b2 : Below W1.heap.size W1 (W1.alloc (.cells #[.int .i64 0, .func (.func 187) #[] #[]] 266)) := (Below.refl _ _).alloc (Nat.le_refl _) _
  have s2 : (W1.alloc (.cells #[.int .i64 0, .func (.func 187) #[] #[]] 266)).heap.size = w.heap.size + 3 := by simp [s1]
  rw [s1] at k2
  generalize W1.alloc (.cells #[.int .i64 0, .func (.func 187) #[] #[]] 266) = W2 at *
  have k3 := Blk.new W2 #[.int .i64 65536, .func (.func 229) #[] #[]] 268
  have b3 : Below W2.heap.size W2 (W2.alloc (.cells #[.int .i64 65536, .func (.func 229) #[] #[]] 268)) := (Below.refl _ _).alloc (Nat.le_refl _) _
  have s3 : (W2.alloc (.cells #[.int .i64 65536, .func (.func 229) #[] #[]] 268)).heap.size = w.heap.size + 4 := by simp [s2]
  rw [s2] at k3
  generalize W2.alloc (.cells #[.int .i64 65536, .func (.func 229) #[] #[]] 268) = W3 at *
  have k4 := Blk.new W3 #[.slice none 0 0, .int .i64 0, .slice none 0 0, .int .i64 0, .int .i64 0, .slice none 0 0] 36
  have b4 : Below W3.heap.size W3 (W3.alloc (.cells #[.slice none 0 0, .int .i64 0, .slice none 0 0, .int .i64 0, .int .i64 0, .slice none 0 0] 36)) := (Below.refl _ _).alloc (Nat.le_refl _) _
  rw [s3] at k4
  have c34 := b4
  have c24 := b3.trans (c34.mono (by omega))
  have c14 := b2.trans (c24.mono (by omega))
  have c04 := b1.trans (c14.mono (by omega))
  exact ⟨b0.trans (c04.mono (by omega)), k0.below c04, k1.below c14, k2.below c24, k3.below c34, k4⟩
set_option maxHeartbeats 1000000 in
theorem stackEnd_any (L : Lay) (a0 : Option Addr) (c0 : Nat) (xs : List PB) (a2 : Option Addr) (c2 : Nat) (a5 : Option Addr) (c5 : Nat) (ts : List TB) (w : World) (h : LyT w L a0 c0 xs a2 c2 a5 c5 ts) :
    Calls Tryz.prog 185 #[.agg #[.slice a0 xs.length c0, .int .i64 L.stack, .slice a2 L.slots.length c2, .int .i64 L.flash, .int .i64 L.ram, .slice a5 ts.length c5]] w fun e w' => e = .returned (.int .i64 (endOf L)) ∧ Below w.heap.size w w' := by
  have HB := hide (show Below w.heap.size w (w.alloc (.cells #[.slice a0 xs.length c0, .int .i64 L.stack, .slice a2 L.slots.length c2, .int .i64 L.flash, .int .i64 L.ram, .slice a5 ts.length c5] 36)) from (Below.refl _ _).alloc (Nat.le_refl _) _)
  have hs := h.s.below HB.out
  have hmx := h.s.2.1
  unfold maxLen at hmx
  unfold endOf
  by_cases c : L.slots = []
  · rw [if_pos c]
    have hl : L.slots.length = 0 := by rw [c]; rfl
    rw [hl]
    rw [hl] at HB
    go_enter Tryz.func185, Tryz.ntmps185
    go_wp2
    go_ret
    exact ⟨rfl, HB.out⟩
  · rw [if_neg c]
    have hl : 0 < L.slots.length := List.length_pos_iff.2 c
    have hl' : (0 : Int) < (L.slots.length : Int) := by omega
    obtain ⟨b, off, rfl, hc⟩ := hs.2.2.2.1 (by omega)
    have q := hc 0 hl
    rw [Nat.add_zero] at q
    generalize L.slots.length = n at *
    generalize L.slots.getD 0 0 = z at *
    clear hs hc c
    go_enter Tryz.func185, Tryz.ntmps185
    go_wp2
    go_ret
    exact ⟨rfl, HB.out⟩
def pcm (ms : List Md) (m b : Int) : Int := if 0 ≤ m ∧ m < (ms.length : Int) then pcn (ms.getD m.toNat zMd).tn (ms.getD m.toNat zMd).bn (ms.getD m.toNat zMd).bl b else -1
set_option maxHeartbeats 1000000 in
theorem l6There_any (a : Option Addr) (n cap : Nat) (ms : List Md) (m b : Int) (w : World) (h : MS w a n cap ms) :
    Calls Tryz.prog 98 #[.slice a n cap, .int .i64 m, .int .i64 b] w fun e w' => e = .returned (.bool (decide (0 ≤ pcm ms m b))) ∧ Below w.heap.size w w' := by
  have hn := h.1
  have hm := h.2.1
  unfold maxLen at hm
  have HB := hide (Below.refl w.heap.size w)
  by_cases c1 : m < 0
  · have HP := hide (show decide (0 ≤ pcm ms m b) = false by unfold pcm; rw [if_neg (by omega)]; rfl)
    rw [HP.out]
    clear hn
    go_enter Tryz.func98, Tryz.ntmps98
    go_wp2
    go_ret
    exact ⟨rfl, HB.out⟩
  · by_cases c2 : (n : Int) ≤ m
    · have HP := hide (show decide (0 ≤ pcm ms m b) = false by unfold pcm; rw [if_neg (by omega)]; rfl)
      rw [HP.out]
      clear hn
      go_enter Tryz.func98, Tryz.ntmps98
      go_wp2
      go_ret
      exact ⟨rfl, HB.out⟩
    · have HP := hide (show pcm ms m b = pcn (ms.getD m.toNat zMd).tn (ms.getD m.toNat zMd).bn (ms.getD m.toNat zMd).bl b by unfold pcm; rw [if_pos (by omega)])
      rw [HP.out]
      clear HP
      obtain ⟨g, off, rfl, q0, q1, q2, q3, q4, q5, q6, q7⟩ := h.at m.toNat (by omega)
      have hmt := h.2.2.2.1 m.toNat (by omega)
      generalize ms.getD m.toNat zMd = M at *
      have HC := hide (l4Piece_any M.nm M.ta M.tn M.tc M.ba M.bn M.bc M.bl (.slice M.da M.dn M.dc) (.slice M.ra M.rn M.rc) (.slice M.ia M.im M.ic) (.slice M.ea M.en M.ec) M.bss b w hmt.t.2.1 hmt.b)
      have c1' : 0 ≤ m := by omega
      have c2' : m < (n : Int) := by omega
      clear hn hmt h
      go_enter Tryz.func98, Tryz.ntmps98
      go_wp2_with fail
      refine HC.out.mono ?_
      rintro e w' ⟨xa, xn, xc, ok, rfl, ho, _, _, hB⟩
      have HO := hide ho
      clear ho
      go_wp2
      go_ret
      exact ⟨ret_bool HO.out, hB⟩
set_option maxHeartbeats 1000000 in
theorem isPiece_any (a : Option Addr) (n cap : Nat) (ms : List Md) (m b : Int) (w : World) (h : MS w a n cap ms) :
    Calls Tryz.prog 99 #[.slice a n cap, .int .i64 m, .int .i64 b] w fun e w' => e = .returned (.bool (decide (0 ≤ pcm ms m b))) ∧ Below w.heap.size w w' := by
  have hn := h.1
  have hm := h.2.1
  unfold maxLen at hm
  have HB := hide (Below.refl w.heap.size w)
  by_cases c1 : m < 0
  · have HP := hide (show decide (0 ≤ pcm ms m b) = false by unfold pcm; rw [if_neg (by omega)]; rfl)
    rw [HP.out]
    clear hn
    have HU := hide (isUpTo_any m ((n : Int) - 1))
    go_enter Tryz.func99, Tryz.ntmps99
    go_wp2_with (go_at_call 165; refine (HU.out _).mono ?_; rintro e w2 ⟨rfl, rfl⟩; rw [decide_eq_false (by omega)])
    go_ret
    exact ⟨rfl, HB.out⟩
  · by_cases c2 : (n : Int) ≤ m
    · have HP := hide (show decide (0 ≤ pcm ms m b) = false by unfold pcm; rw [if_neg (by omega)]; rfl)
      rw [HP.out]
      clear hn
      have HU := hide (isUpTo_any m ((n : Int) - 1))
      go_enter Tryz.func99, Tryz.ntmps99
      go_wp2_with (go_at_call 165; refine (HU.out _).mono ?_; rintro e w2 ⟨rfl, rfl⟩; rw [decide_eq_false (by omega)])
      go_ret
      exact ⟨rfl, HB.out⟩
    · have HP := hide (show pcm ms m b = pcn (ms.getD m.toNat zMd).tn (ms.getD m.toNat zMd).bn (ms.getD m.toNat zMd).bl b by unfold pcm; rw [if_pos (by omega)])
      rw [HP.out]
      clear HP
      obtain ⟨g, off, rfl, q0, q1, q2, q3, q4, q5, q6, q7⟩ := h.at m.toNat (by omega)
      have hmt := h.2.2.2.1 m.toNat (by omega)
      generalize ms.getD m.toNat zMd = M at *
      have HC := hide (pieceOf_any M.nm M.ta M.tn M.tc M.ba M.bn M.bc M.bl (.slice M.da M.dn M.dc) (.slice M.ra M.rn M.rc) (.slice M.ia M.im M.ic) (.slice M.ea M.en M.ec) M.bss b w hmt.t.2.1 hmt.b)
      have c1' : 0 ≤ m := by omega
      have c2' : m < (n : Int) := by omega
      clear hn hmt h
      have HU := hide (isUpTo_any m ((n : Int) - 1))
      go_enter Tryz.func99, Tryz.ntmps99
      go_wp2_with (go_at_call 165; refine (HU.out _).mono ?_; rintro e w2 ⟨rfl, rfl⟩; rw [decide_eq_true (by omega)])
      refine HC.out.mono ?_
      rintro e w' ⟨xa, xn, xc, ok, rfl, ho, _, _, hB⟩
      have HO := hide ho
      clear ho
      go_wp2
      go_ret
      exact ⟨ret_bool HO.out, hB⟩
def orgn (L : Lay) (P : PB) (b s : Int) : Int := if b = -1 then P.1.text else if s = -1 then P.1.banks.getD b.toNat 0 else L.slots.getD s.toNat 0
set_option maxHeartbeats 2000000 in
theorem originOf_any (L : Lay) (a0 : Option Addr) (c0 : Nat) (xs : List PB) (a2 : Option Addr) (c2 : Nat) (a5 : Option Addr) (c5 : Nat) (ts : List TB) (m b at' s : Int) (w : World) (h : LyT w L a0 c0 xs a2 c2 a5 c5 ts)
    (hm0 : 0 ≤ m) (hm1 : m < (xs.length : Int)) (hb : b = -1 ∨ (0 ≤ b ∧ b < ((xs.getD m.toNat zPB).1.banks.length : Int))) (hs : s = -1 ∨ (b ≠ -1 ∧ 0 ≤ s ∧ s < (L.slots.length : Int))) :
    Calls Tryz.prog 186 #[.agg #[.slice a0 xs.length c0, .int .i64 L.stack, .slice a2 L.slots.length c2, .int .i64 L.flash, .int .i64 L.ram, .slice a5 ts.length c5], .agg #[.int .i64 m, .int .i64 b, .int .i64 at'], .int .i64 s] w fun e w' => e = .returned (.int .i64 (orgn L (xs.getD m.toNat zPB) b s)) ∧ Below w.heap.size w w' := by
  obtain ⟨W, hW⟩ : ∃ W, W = (w.alloc (.cells #[.slice a0 xs.length c0, .int .i64 L.stack, .slice a2 L.slots.length c2, .int .i64 L.flash, .int .i64 L.ram, .slice a5 ts.length c5] 36)).alloc (.cells #[.int .i64 m, .int .i64 b, .int .i64 at'] 71) := ⟨_, rfl⟩
  have hB : Below w.heap.size w W := by rw [hW]; exact ((Below.refl _ _).alloc (Nat.le_refl _) _).alloc (by simp) _
  have HB := hide hB
  have h1 := h.below hB
  have k0 : Blk W w.heap.size #[.slice a0 xs.length c0, .int .i64 L.stack, .slice a2 L.slots.length c2, .int .i64 L.flash, .int .i64 L.ram, .slice a5 ts.length c5] 36 := by rw [hW]; exact (Blk.new w _ _).alloc _
  have k1 : Blk W (w.heap.size + 1) #[.int .i64 m, .int .i64 b, .int .i64 at'] 71 := by rw [hW]; have := Blk.new (w.alloc (.cells #[.slice a0 xs.length c0, .int .i64 L.stack, .slice a2 L.slots.length c2, .int .i64 L.flash, .int .i64 L.ram, .slice a5 ts.length c5] 36)) #[.int .i64 m, .int .i64 b, .int .i64 at'] 71; simpa using this
  have hz : W.heap.size = w.heap.size + 1 + 1 := by rw [hW]; simp
  have HZ := hide hz
  clear hz
  have d0 : W.cell? ⟨w.heap.size, 0, none⟩ = some (.slice a0 xs.length c0) := k0.cell 0
  have d2 : W.cell? ⟨w.heap.size, 2, none⟩ = some (.slice a2 L.slots.length c2) := k0.cell 2
  have t0 : W.cell? ⟨w.heap.size + 1, 0, none⟩ = some (.int .i64 m) := k1.cell 0
  have t1 : W.cell? ⟨w.heap.size + 1, 1, none⟩ = some (.int .i64 b) := k1.cell 1
  obtain ⟨g, off, rfl, q0, q1, q2, q3⟩ := h1.p.at m.toNat (by omega)
  have hbk := h1.p.2.2.2.1 m.toNat (by omega)
  have hsl := h1.s
  have hmx := h1.p.2.1
  have hmy := hsl.2.1
  have hmz := hbk.2.1
  unfold maxLen at hmx hmy hmz
  unfold svP at q1
  generalize xs.getD m.toNat zPB = P at *
  have HW := hide hW
  clear hW hB k0 k1 h1 h
  rcases hb with rfl | ⟨hb0, hb1⟩
  · obtain rfl : s = -1 := by rcases hs with h | h; exact h; exact absurd rfl h.1
    have HO := hide (show orgn L P (-1) (-1) = P.1.text from rfl)
    rw [HO.out]
    clear hs hbk hsl
    generalize P.1.text = x at *
    generalize xs.length = n at *
    generalize L.slots.length = l at *
    go_enter Tryz.func186, Tryz.ntmps186
    go_wp2_with (rw [← HW.out])
    go_ret
    exact ⟨rfl, (by first | exact HB.out | exact HB.out.drew)⟩
  · have hb2 : ¬ b = -1 := by omega
    have hb3 : (b == -1) = false := by simpa using hb2
    rcases hs with rfl | ⟨_, hs0, hs1⟩
    · have HO := hide (show orgn L P b (-1) = P.1.banks.getD b.toNat 0 by unfold orgn; rw [if_neg hb2, if_pos rfl])
      rw [HO.out]
      obtain ⟨u, v, e, hc⟩ := hbk.2.2.2.1 (by omega)
      have qq := hc b.toNat (by omega)
      rw [e] at q1
      clear hbk hsl e hc HO
      generalize P.1.banks.getD b.toNat 0 = x at *
      generalize P.1.banks.length = y at *
      generalize xs.length = n at *
      generalize L.slots.length = l at *
      go_enter Tryz.func186, Tryz.ntmps186
      go_wp2_with (rw [← HW.out])
      go_region_held3 (fun w' => w'.cell? ⟨w.heap.size, 0, none⟩ = some (.slice (some ⟨g, off, none⟩) n c0) ∧ w'.cell? ⟨w.heap.size + 1, 0, none⟩ = some (.int .i64 m) ∧ w'.cell? ⟨w.heap.size + 1, 1, none⟩ = some (.int .i64 b) ∧ w'.cell? ⟨g, off + m.toNat * 4 + 1, none⟩ = some (.slice (some ⟨u, v, none⟩) y P.2.2) ∧ w'.cell? ⟨u, v + b.toNat, none⟩ = some (.int .i64 x)) (go_keep) (fail)
      go_wp2
      go_ret
      exact ⟨rfl, (by first | exact HB.out | exact HB.out.drew)⟩
    · have hs2 : ¬ s = -1 := by omega
      have hs3 : (s == -1) = false := by simpa using hs2
      have HO := hide (show orgn L P b s = L.slots.getD s.toNat 0 by unfold orgn; rw [if_neg hb2, if_neg hs2])
      rw [HO.out]
      obtain ⟨u, v, e, hc⟩ := hsl.2.2.2.1 (by omega)
      have qq := hc s.toNat (by omega)
      rw [e] at d2
      clear hbk hsl e hc HO
      generalize L.slots.getD s.toNat 0 = x at *
      generalize P.1.banks.length = y at *
      generalize xs.length = n at *
      generalize L.slots.length = l at *
      go_enter Tryz.func186, Tryz.ntmps186
      go_wp2_with (rw [← HW.out])
      go_ret
      exact ⟨rfl, (by first | exact HB.out | exact HB.out.drew)⟩
set_option maxHeartbeats 2000000 in
theorem l6Origin_any (L : Lay) (a0 : Option Addr) (c0 : Nat) (xs : List PB) (a2 : Option Addr) (c2 : Nat) (a5 : Option Addr) (c5 : Nat) (ts : List TB) (m b at' s : Int) (w : World) (h : LyT w L a0 c0 xs a2 c2 a5 c5 ts)
    (hm0 : 0 ≤ m) (hm1 : m < (xs.length : Int)) (hb : b = -1 ∨ (0 ≤ b ∧ b < ((xs.getD m.toNat zPB).1.banks.length : Int))) (hs : s = -1 ∨ (b ≠ -1 ∧ 0 ≤ s ∧ s < (L.slots.length : Int))) :
    Calls Tryz.prog 135 #[.agg #[.slice a0 xs.length c0, .int .i64 L.stack, .slice a2 L.slots.length c2, .int .i64 L.flash, .int .i64 L.ram, .slice a5 ts.length c5], .agg #[.int .i64 m, .int .i64 b, .int .i64 at'], .int .i64 s] w fun e w' => e = .returned (.int .i64 (orgn L (xs.getD m.toNat zPB) b s)) ∧ Below w.heap.size w w' := by
  obtain ⟨W, hW⟩ : ∃ W, W = (w.alloc (.cells #[.slice a0 xs.length c0, .int .i64 L.stack, .slice a2 L.slots.length c2, .int .i64 L.flash, .int .i64 L.ram, .slice a5 ts.length c5] 36)).alloc (.cells #[.int .i64 m, .int .i64 b, .int .i64 at'] 71) := ⟨_, rfl⟩
  have hB : Below w.heap.size w W := by rw [hW]; exact ((Below.refl _ _).alloc (Nat.le_refl _) _).alloc (by simp) _
  have HB := hide hB
  have h1 := h.below hB
  have k0 : Blk W w.heap.size #[.slice a0 xs.length c0, .int .i64 L.stack, .slice a2 L.slots.length c2, .int .i64 L.flash, .int .i64 L.ram, .slice a5 ts.length c5] 36 := by rw [hW]; exact (Blk.new w _ _).alloc _
  have k1 : Blk W (w.heap.size + 1) #[.int .i64 m, .int .i64 b, .int .i64 at'] 71 := by rw [hW]; have := Blk.new (w.alloc (.cells #[.slice a0 xs.length c0, .int .i64 L.stack, .slice a2 L.slots.length c2, .int .i64 L.flash, .int .i64 L.ram, .slice a5 ts.length c5] 36)) #[.int .i64 m, .int .i64 b, .int .i64 at'] 71; simpa using this
  have hz : W.heap.size = w.heap.size + 1 + 1 := by rw [hW]; simp
  have HZ := hide hz
  clear hz
  have d0 : W.cell? ⟨w.heap.size, 0, none⟩ = some (.slice a0 xs.length c0) := k0.cell 0
  have d2 : W.cell? ⟨w.heap.size, 2, none⟩ = some (.slice a2 L.slots.length c2) := k0.cell 2
  have t0 : W.cell? ⟨w.heap.size + 1, 0, none⟩ = some (.int .i64 m) := k1.cell 0
  have t1 : W.cell? ⟨w.heap.size + 1, 1, none⟩ = some (.int .i64 b) := k1.cell 1
  obtain ⟨g, off, rfl, q0, q1, q2, q3⟩ := h1.p.at m.toNat (by omega)
  have hbk := h1.p.2.2.2.1 m.toNat (by omega)
  have hsl := h1.s
  have hmx := h1.p.2.1
  have hmy := hsl.2.1
  have hmz := hbk.2.1
  unfold maxLen at hmx hmy hmz
  unfold svP at q1
  generalize xs.getD m.toNat zPB = P at *
  have kA := k0.alloc (.cells #[.int .i64 P.1.text, .slice P.2.1 P.1.banks.length P.2.2, .int .i64 P.1.data, .int .i64 P.1.size] 138)
  have kB := k1.alloc (.cells #[.int .i64 P.1.text, .slice P.2.1 P.1.banks.length P.2.2, .int .i64 P.1.data, .int .i64 P.1.size] 138)
  have kC := Blk.new W #[.int .i64 P.1.text, .slice P.2.1 P.1.banks.length P.2.2, .int .i64 P.1.data, .int .i64 P.1.size] 138
  have v2 : (W.alloc (.cells #[.int .i64 P.1.text, .slice P.2.1 P.1.banks.length P.2.2, .int .i64 P.1.data, .int .i64 P.1.size] 138)).cell? ⟨w.heap.size, 2, none⟩ = some (.slice a2 L.slots.length c2) := kA.cell 2
  have v1 : (W.alloc (.cells #[.int .i64 P.1.text, .slice P.2.1 P.1.banks.length P.2.2, .int .i64 P.1.data, .int .i64 P.1.size] 138)).cell? ⟨w.heap.size + 1, 1, none⟩ = some (.int .i64 b) := kB.cell 1
  have u0 : (W.alloc (.cells #[.int .i64 P.1.text, .slice P.2.1 P.1.banks.length P.2.2, .int .i64 P.1.data, .int .i64 P.1.size] 138)).cell? ⟨W.heap.size, 0, none⟩ = some (.int .i64 P.1.text) := kC.cell 0
  have u1 : (W.alloc (.cells #[.int .i64 P.1.text, .slice P.2.1 P.1.banks.length P.2.2, .int .i64 P.1.data, .int .i64 P.1.size] 138)).cell? ⟨W.heap.size, 1, none⟩ = some (.slice P.2.1 P.1.banks.length P.2.2) := kC.cell 1
  have HBV := hide (show Below W.heap.size W (W.alloc (.cells #[.int .i64 P.1.text, .slice P.2.1 P.1.banks.length P.2.2, .int .i64 P.1.data, .int .i64 P.1.size] 138)) from (Below.refl _ _).alloc (Nat.le_refl _) _)
  have HBW := hide (show Below w.heap.size w (W.alloc (.cells #[.int .i64 P.1.text, .slice P.2.1 P.1.banks.length P.2.2, .int .i64 P.1.data, .int .i64 P.1.size] 138)) from hB.alloc hB.size _)
  have HW := hide hW
  clear hW hB k0 k1 h1 h kA kB kC
  rcases hb with rfl | ⟨hb0, hb1⟩
  · obtain rfl : s = -1 := by rcases hs with h | h; exact h; exact absurd rfl h.1
    have HO := hide (show orgn L P (-1) (-1) = P.1.text from rfl)
    rw [HO.out]
    clear hs hbk hsl
    generalize P.1.text = x at *
    generalize xs.length = n at *
    generalize L.slots.length = l at *
    go_enter Tryz.func135, Tryz.ntmps135
    go_wp2_with (rw [← HW.out])
    all_goals go_ret
    all_goals exact ⟨rfl, (by first | exact HBW.out | exact HBW.out.drew | exact HB.out | exact (HB.out.alloc HB.out.size _) | exact ((HB.out.alloc HB.out.size _).setCells (by omega) _))⟩
  · have hb2 : ¬ b = -1 := by omega
    have hb3 : (b == -1) = false := by simpa using hb2
    rcases hs with rfl | ⟨_, hs0, hs1⟩
    · have HO := hide (show orgn L P b (-1) = P.1.banks.getD b.toNat 0 by unfold orgn; rw [if_neg hb2, if_pos rfl])
      rw [HO.out]
      obtain ⟨u, v, e, hc⟩ := hbk.2.2.2.1 (by omega)
      have qq := hc b.toNat (by omega)
      have qv := cell_below HBV.out qq
      rw [e] at q1
      rw [e] at u1 u0 v1 v2 qv HBW
      clear HBV
      clear hbk hsl e hc HO
      generalize P.1.banks.getD b.toNat 0 = x at *
      generalize P.1.banks.length = y at *
      generalize xs.length = n at *
      generalize L.slots.length = l at *
      go_enter Tryz.func135, Tryz.ntmps135
      go_wp2_with (rw [← HW.out])
      all_goals go_ret
      all_goals exact ⟨rfl, (by first | exact HBW.out | exact HBW.out.drew | exact HB.out | exact (HB.out.alloc HB.out.size _) | exact ((HB.out.alloc HB.out.size _).setCells (by omega) _))⟩
    · have hs2 : ¬ s = -1 := by omega
      have hs3 : (s == -1) = false := by simpa using hs2
      have HO := hide (show orgn L P b s = L.slots.getD s.toNat 0 by unfold orgn; rw [if_neg hb2, if_neg hs2])
      rw [HO.out]
      obtain ⟨u, v, e, hc⟩ := hsl.2.2.2.1 (by omega)
      have qq := hc s.toNat (by omega)
      have qv := cell_below HBV.out qq
      rw [e] at d2 v2
      clear HBV
      clear hbk hsl e hc HO
      generalize L.slots.getD s.toNat 0 = x at *
      generalize P.1.banks.length = y at *
      generalize xs.length = n at *
      generalize L.slots.length = l at *
      go_enter Tryz.func135, Tryz.ntmps135
      go_wp2_with (rw [← HW.out])
      all_goals go_ret
      all_goals exact ⟨rfl, (by first | exact HBW.out | exact HBW.out.drew | exact HB.out | exact (HB.out.alloc HB.out.size _) | exact ((HB.out.alloc HB.out.size _).setCells (by omega) _))⟩
end Go.Proofs.YtngdgogjlpjjpaeGreat
