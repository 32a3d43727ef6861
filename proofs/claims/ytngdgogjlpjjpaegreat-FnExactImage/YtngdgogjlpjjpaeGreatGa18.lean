import Derived.Test.YtngdgogjlpjjpaeGreatGa17
import Derived.Deep.RegionLaw
import Derived.Deep.AppendLies
namespace Go.Proofs.YtngdgogjlpjjpaeGreat
open Go.RowKit
open Go Go.Maps Go.WideShapes
set_option linter.unusedVariables false
set_option linter.unusedSimpArgs false
set_option maxRecDepth 100000

set_option maxHeartbeats 1000000 in
theorem roundUp_any (x : Int) (w : World) (h0 : 0 ≤ x) (h1 : x ≤ 4294967295) : Calls Tryz.prog 229 #[.int .i64 x] w fun e w' => e = .returned (.int .i64 (rnd x)) ∧ w' = w := by
  have hd : (x + 31).tdiv 32 = (x + 31) / 32 := Int.tdiv_eq_ediv_of_nonneg (by omega)
  go_enter Tryz.func229, Tryz.ntmps229
  go_wp2
  go_ret
  exact ⟨ret_int (by unfold rnd; rw [show x + 31 = x + 32 - 1 by omega]), rfl⟩
set_option maxHeartbeats 1000000 in
theorem wordBytes_any (a : Option Addr) (n cap : Nat) (w : World) (hn : n ≤ 1048576) : Calls Tryz.prog 187 #[.slice a n cap] w fun e w' => e = .returned (.int .i64 (rnd (4 * (n : Int)))) ∧ w' = w := by
  have hw : IntKind.i64.wrap (4 * (n : Int)) = 4 * (n : Int) := wraps62 _ (by omega) (by omega)
  have HR := hide (roundUp_any (4 * (n : Int)) w (by omega) (by omega))
  go_enter Tryz.func187, Tryz.ntmps187
  go_wp2_with fail
  refine HR.out.mono ?_
  rintro e w1 ⟨rfl, rfl⟩
  go_wp2
  go_ret
  exact ⟨rfl, rfl⟩
theorem Md.okI {m : Md} {w : World} (h : m.md w) : Calls Tryz.prog 225 #[.agg #[.string m.nm, .slice m.ta m.tn m.tc, .slice m.ba m.bn m.bc, .slice m.da m.dn m.dc, .int .i64 m.bss, .slice m.ra m.rn m.rc, .slice m.ia m.im m.ic, .slice m.ea m.en m.ec]] w fun e w' => e = .returned (.int .i64 (mdoP m.pm)) ∧ Below w.heap.size w w' := by
  have := iModuleOk_any _ _ _ _ _ _ _ _ _ _ _ _ _ _ _ _ _ _ _ _ _ _ _ _ _ _ w h
  rw [md_mdo h] at this
  exact this
theorem ba_ext {a b : ByteArray} : a.data.toList = b.data.toList ↔ a = b := by
  constructor
  · intro e
    cases a
    cases b
    simp at e
    rw [e]
  · intro e; rw [e]
theorem nms_size {ms : List Md} {n : Nat} (hl : ms.length = n) : (size (fd (mdNm ms) n) = n) ↔ nms (pmS ms) := by
  have h := fd_size (mdNm ms) n
  have key : ∀ i, i < n → ((pmS ms).getD i zP).nm = (ms.getD i zMd).nm := fun i hi => by rw [pmS_at (by omega)]; rfl
  constructor
  · intro e
    rw [decide_eq_true e] at h
    intro i hi k hk
    rw [pmS_len, hl] at hi
    have h' := h.symm
    rw [List.all_eq_true] at h'
    have h1 := h' i (by simpa using hi)
    rw [List.all_eq_true] at h1
    have h2 := h1 k (by simpa using hk)
    rw [key k (by omega), key i hi]
    intro e'
    have e2 : mdNm ms k = mdNm ms i := by unfold mdNm; rw [e']
    rw [e2] at h2
    simp at h2
  · intro hn
    apply of_decide_eq_true
    rw [h, List.all_eq_true]
    intro i hi
    rw [List.all_eq_true]
    intro k hk
    have hi' : i < n := by simpa using hi
    have hk' : k < i := by simpa using hk
    have := hn i (by rw [pmS_len]; omega) k hk'
    rw [key k (by omega), key i hi'] at this
    have h3 : mdNm ms k ≠ mdNm ms i := fun e => this (ba_ext.1 e)
    simp [h3]
end Go.Proofs.YtngdgogjlpjjpaeGreat

namespace Go.Proofs.YtngdgogjlpjjpaeGreat
open Go Go.Maps Go.WideShapes
open Go.RowKit
set_option linter.unusedVariables false
set_option linter.unusedSimpArgs false
set_option maxRecDepth 100000

set_option maxHeartbeats 4000000 in
theorem linkFault_any (a : Option Addr) (n cap : Nat) (ms : List Md) (s c k d : Int) (w : World) (h : MSD w a n cap ms) :
    Calls Tryz.prog 167 #[.slice a n cap, .agg #[.int .i64 s, .int .i64 c, .int .i64 k, .int .i64 d]] w fun e w' => e = .returned (.int .i64 (snd4 (pmS ms) s c k d)) ∧ Below w.heap.size w w' := by
  have hA : Below w.heap.size w (w.alloc (.cells #[.int .i64 s, .int .i64 c, .int .i64 k, .int .i64 d] 44)) := (Below.refl _ _).alloc (Nat.le_refl _) _
  have hl := h.s.1
  have hm1 := h.s.2.1
  unfold maxLen at hm1
  have hpl := pmS_len ms
  have HH := hide h
  have HC := hide (fun W => iConfigOk_any s c k d W)
  clear h
  go_enter Tryz.func167, Tryz.ntmps167
  go_wp2_with fail
  refine (HC.out _).mono ?_
  rintro e w1 ⟨rfl, hb1⟩
  have HB1 := hide (hA.trans (hb1.mono (by simp)))
  clear hA hb1 HC
  cases hcf : cfo s c k d with
  | false =>
    have HS := hide (snd4_1 (ps := pmS ms) hcf)
    go_wp2
    go_ret
    exact ⟨ret_int HS.out.symm, HB1.out⟩
  | true =>
    by_cases hn2 : n < 1 ∨ 4 < n
    · have HS := hide (snd4_2 (ps := pmS ms) hcf (by omega))
      by_cases hn1 : n < 1
      · have hn1' : (n : Int) < 1 := by omega
        clear hn2
        go_wp2
        go_ret
        exact ⟨ret_int HS.out.symm, HB1.out⟩
      · have hn1' : ¬ (n : Int) < 1 := by omega
        have hn4' : (4 : Int) < (n : Int) := by omega
        clear hn2
        go_wp2
        go_ret
        exact ⟨ret_int HS.out.symm, HB1.out⟩
    have hn1' : ¬ (n : Int) < 1 := by omega
    have hn4' : ¬ (4 : Int) < (n : Int) := by omega
    have HN2 := hide (show ¬ ((pmS ms).length < 1 ∨ 4 < (pmS ms).length) by rw [hpl, hl]; exact hn2)
    clear hn2
    go_wp2
    go_loopw [20] (fun i wr => ∃ m : Nat, m ≤ n ∧ i = .int .i64 m ∧ (∀ j, j < m → mdoP ((pmS ms).getD j zP) = 0) ∧ Below w.heap.size w wr) (fun i _ => n - (intOf i).toNat)
    case atStart => exact ⟨0, Nat.zero_le _, rfl, fun j hj => absurd hj (by omega), HB1.out⟩
    case round =>
      obtain ⟨m, hm, rfl, hv, B⟩ := hrel
      by_cases hlt : m < n
      · have hlt' : (m : Int) < (n : Int) := by omega
        have H := HH.out.below B
        obtain ⟨b, off, rfl, q0, q1, q2, q3, q4, q5, q6, q7⟩ := H.s.at m hlt
        have HOK := hide (fun (W : World) (hb : Below wr.heap.size wr W) => Md.okI (MD.below (H.d m hlt) hb))
        obtain ⟨V, hV⟩ : ∃ V, V = mdoP (ms.getD m zMd).pm := ⟨_, rfl⟩
        rw [← hV] at HOK
        have HVV := hide (hV.trans (by rw [← pmS_at (by omega)]))
        have HV := hide hv
        have HB := hide B
        generalize ms.getD m zMd = M at *
        have al : Below wr.heap.size wr (wr.alloc (.cells #[.string M.nm, .slice M.ta M.tn M.tc, .slice M.ba M.bn M.bc, .slice M.da M.dn M.dc, .int .i64 M.bss, .slice M.ra M.rn M.rc, .slice M.ia M.im M.ic, .slice M.ea M.en M.ec] 104)) := (Below.refl _ _).alloc (Nat.le_refl _) _
        obtain ⟨g0, g1, g2, g3, g4, g5, g6, g7⟩ := (Blk.new wr #[.string M.nm, .slice M.ta M.tn M.tc, .slice M.ba M.bn M.bc, .slice M.da M.dn M.dc, .int .i64 M.bss, .slice M.ra M.rn M.rc, .slice M.ia M.im M.ic, .slice M.ea M.en M.ec] 104).eight
        have HAL := hide al
        clear hv B H hV al
        go_wp2_with fail
        refine (HOK.out _ HAL.out).mono ?_
        rintro e w2 ⟨rfl, hb2⟩
        have hb2' := HAL.out.trans (hb2.mono HAL.out.size)
        have HB2 := hide (HB.out.trans (hb2'.mono HB.out.size))
        clear hb2 hb2' HOK HB HAL q0 q1 q2 q3 q4 q5 q6 q7 g0 g1 g2 g3 g4 g5 g6 g7
        by_cases hz : V = 0
        · subst hz
          have HV2 := hide (show ∀ j, j < m + 1 → mdoP ((pmS ms).getD j zP) = 0 from fun j hj => by
            by_cases e : j = m
            · subst e; exact HVV.out.symm
            · exact HV.out j (by omega))
          go_wp2
          go_roundw
          case rel => exact ⟨m + 1, by omega, by go_num, HV2.out, HB2.out⟩
          case measure => simp [intOf]; omega
        · have hz' : (V != 0) = true := by simp [hz]
          have HS := hide (snd4_3 (ps := pmS ms) hcf HN2.out m (by omega) (by rw [← HVV.out]; exact hz))
          go_wp2
          go_ret
          exact ⟨ret_int HS.out.symm, HB2.out⟩
      · have hlt' : ¬ (m : Int) < (n : Int) := by omega
        have HV := hide (show vlds (pmS ms) from fun i hi => hv i (by omega))
        have HB := hide B
        have HF := hide (firstOfM_any a n cap ms wr (HH.out.s.below B) (by omega))
        have hsz := fd_size_le (mdNm ms) n
        have HNS := hide (nms_size (ms := ms) hl)
        obtain ⟨Sz, hSz⟩ : ∃ Sz, Sz = size (fd (mdNm ms) n) := ⟨_, rfl⟩
        have HSZ := hide hSz
        rw [← hSz] at hsz HNS
        clear hv B hSz
        go_wp2_with fail
        refine HF.out.mono ?_
        rintro e w2 ⟨rfl, hown, hb2⟩
        have hlen : ∀ ty, (Builtin.len_ #[262] ty #[.map (some wr.heap.size)]).run Tryz.prog w2 = .ok (.int .i64 (Sz : Int)) w2 := by intro ty; rw [HSZ.out]; exact hown.len Tryz.underlying262 ty
        have HB2 := hide (HB.out.trans (hb2.mono HB.out.size))
        clear hown hb2 HF HB
        by_cases he : Sz = n
        · have HS := hide (snd4_0 (d := d) hcf HN2.out HV.out (HNS.out.1 he))
          subst he
          have hne : ((Sz : Int) != (Sz : Int)) = false := by simp
          go_wp2
          go_ret
          exact ⟨ret_int HS.out.symm, HB2.out⟩
        · have HS := hide (show snd4 (pmS ms) s c k d = 4 by
            unfold snd4
            rw [if_neg (by rw [hcf]; decide), if_neg HN2.out, if_neg (fun e => e HV.out), if_pos (fun e => he (HNS.out.2 e))])
          have hne : ((Sz : Int) != (n : Int)) = true := by simp; omega
          go_wp2
          go_ret
          exact ⟨ret_int HS.out.symm, HB2.out⟩
end Go.Proofs.YtngdgogjlpjjpaeGreat

namespace Go.Proofs.YtngdgogjlpjjpaeGreat
open Go.RowKit
set_option linter.unusedVariables false
set_option linter.unusedSimpArgs false
set_option maxRecDepth 100000

/-- the longest of the banks seen -/
def GB (ps : List PMod) (m q R : Nat) : Prop := (∀ i, i < ps.length → ∀ k, k < (ps.getD i zP).bl.length → (i < m ∨ (i = m ∧ k < q)) → ((ps.getD i zP).bl.getD k []).length ≤ R) ∧ (R = 0 ∨ ∃ i, i < ps.length ∧ ∃ k, k < (ps.getD i zP).bl.length ∧ ((ps.getD i zP).bl.getD k []).length = R)
theorem gb_zero (ps : List PMod) : GB ps 0 0 0 := ⟨fun i _ k _ h => by omega, .inl rfl⟩
theorem GB.next {ps : List PMod} {m q R : Nat} (h : GB ps m q R) (hq : (ps.getD m zP).bl.length ≤ q) : GB ps (m + 1) 0 R :=
  ⟨fun i hi k hk e => h.1 i hi k hk (by
    by_cases e2 : i = m
    · subst e2; right; exact ⟨rfl, by omega⟩
    · left; omega), h.2⟩
theorem GB.step {ps : List PMod} {m q R : Nat} (h : GB ps m q R) (hm : m < ps.length) (hq : q < (ps.getD m zP).bl.length) : GB ps m (q + 1) (max R ((ps.getD m zP).bl.getD q []).length) := by
  refine ⟨fun i hi k hk e => ?_, ?_⟩
  · by_cases e2 : i = m ∧ k = q
    · obtain ⟨rfl, rfl⟩ := e2; omega
    · have := h.1 i hi k hk (by omega); omega
  · by_cases hc : ((ps.getD m zP).bl.getD q []).length ≤ R
    · rw [show max R ((ps.getD m zP).bl.getD q []).length = R by omega]
      exact h.2
    · exact .inr ⟨m, hm, q, hq, by omega⟩
theorem gb_shrt {ps : List PMod} {R : Nat} (h : GB ps ps.length 0 R) (w : Int) (hw : 1 ≤ w) : (w < (R : Int)) ↔ ¬ shrt ps w := by
  constructor
  · intro h1 hs
    rcases h.2 with h2 | ⟨i, hi, k, hk, e⟩
    · omega
    · have := hs i hi k hk
      omega
  · intro hs
    apply Classical.byContradiction
    intro hn
    exact hs (fun i hi k hk => by have := h.1 i hi k hk (.inl hi); omega)

set_option maxHeartbeats 4000000 in
theorem greatestBank_any (a : Option Addr) (n cap : Nat) (ms : List Md) (w : World) (h : MSD w a n cap ms) (hv : vlds (pmS ms)) (hn4 : n ≤ 4) :
    Calls Tryz.prog 169 #[.slice a n cap] w fun e w' => ∃ R : Nat, e = .returned (.int .i64 (R : Int)) ∧ GB (pmS ms) (pmS ms).length 0 R ∧ Below w.heap.size w w' := by
  have hl := h.s.1
  have hpl : (pmS ms).length = n := by rw [pmS_len, hl]
  have HH := hide h
  have HVL := hide hv
  clear h hv
  go_enter Tryz.func169, Tryz.ntmps169
  go_wp2
  go_loopw [3, 10] (fun x i wr => ∃ (m R : Nat), m ≤ n ∧ i = .int .i64 m ∧ x = .int .i64 (R : Int) ∧ R ≤ 64 ∧ Hid (GB (pmS ms) m 0 R) ∧ Below w.heap.size w wr) (fun _ i _ => n - (intOf i).toNat)
  case atStart => exact ⟨0, 0, Nat.zero_le _, rfl, rfl, Nat.zero_le _, hide (gb_zero _), Below.refl _ _⟩
  case round =>
    obtain ⟨m, R, hm, rfl, rfl, hR, hG, B⟩ := hrel
    by_cases hlt : m < n
    · have hlt' : (m : Int) < (n : Int) := by omega
      have H := HH.out.below B
      obtain ⟨b, off, rfl, q0, q1, q2, q3, q4, q5, q6, q7⟩ := H.s.at m hlt
      have hmd := H.d m hlt
      obtain ⟨P, hP⟩ : ∃ P, P = (pmS ms).getD m zP := ⟨_, rfl⟩
      have hPM : P = (ms.getD m zMd).pm := hP.trans (pmS_at (by omega))
      have hvm := HVL.out m (by omega)
      rw [← hP] at hvm
      obtain ⟨_, _, _, vb, _, _, _, vbk⟩ := vld_en hvm
      have eB : (ms.getD m zMd).bn = P.bl.length := by rw [hPM]; show _ = (List.map _ _).length; rw [List.length_map]; exact hmd.b.1.symm
      have HBK := hide (show ∀ j, j < P.bl.length → ((ms.getD m zMd).bl.getD j zB).2.1 = (P.bl.getD j []).length from fun j hj => by rw [hPM]; exact (pm_bank hmd j (by omega)).1)
      have HMB := hide (fun (W : World) (hb : Below wr.heap.size wr W) => (MD.below hmd hb).b)
      have HP := hide hP
      rw [eB] at q2
      have HEB := hide eB
      have HB := hide B
      generalize ms.getD m zMd = M at *
      generalize M.ba = ba at *
      have al : Below wr.heap.size wr (wr.alloc (.cells #[.string M.nm, .slice M.ta M.tn M.tc, .slice ba P.bl.length M.bc, .slice M.da M.dn M.dc, .int .i64 M.bss, .slice M.ra M.rn M.rc, .slice M.ia M.im M.ic, .slice M.ea M.en M.ec] 104)) := (Below.refl _ _).alloc (Nat.le_refl _) _
      obtain ⟨g0, g1, g2, g3, g4, g5, g6, g7⟩ := (Blk.new wr #[.string M.nm, .slice M.ta M.tn M.tc, .slice ba P.bl.length M.bc, .slice M.da M.dn M.dc, .int .i64 M.bss, .slice M.ra M.rn M.rc, .slice M.ia M.im M.ic, .slice M.ea M.en M.ec] 104).eight
      have HAL := hide al
      clear B H hmd hP hPM eB al hvm
      generalize wr = wo at *
      go_wp2_with fail
      go_loopw [3, 17] (fun x i wx => ∃ (q R : Nat), q ≤ P.bl.length ∧ i = .int .i64 q ∧ x = .int .i64 (R : Int) ∧ R ≤ 64 ∧ Hid (GB (pmS ms) m q R) ∧ Below wo.heap.size wo wx) (fun _ i _ => P.bl.length - (intOf i).toNat)
      case atStart => exact ⟨0, R, Nat.zero_le _, rfl, rfl, hR, hG, HAL.out⟩
      case round =>
        obtain ⟨q, R', hq, rfl, rfl, hR', hG', B⟩ := hrel
        by_cases hlt2 : q < P.bl.length
        · have hlt2' : (q : Int) < (P.bl.length : Int) := by omega
          obtain ⟨_, _, hcb, _, _⟩ := HMB.out wr B
          obtain ⟨b2, off2, rfl, hc⟩ := hcb (by rw [HEB.out]; omega)
          have cb := hc q (by rw [HEB.out]; exact hlt2)
          rw [HBK.out q hlt2] at cb
          have hLq := vbk q hlt2
          obtain ⟨LQ, hLQ⟩ : ∃ LQ, LQ = (P.bl.getD q []).length := ⟨_, rfl⟩
          rw [← hLQ] at cb hLq
          have HG2 := hide (show GB (pmS ms) m (q + 1) (max R' LQ) by rw [hLQ, HP.out]; exact hG'.out.step (by omega) (by rw [← HP.out]; exact hlt2))
          have hmx : max (R' : Int) (LQ : Int) = ((max R' LQ : Nat) : Int) := by omega
          have HB2 := hide B
          generalize M.bl.getD q zB = bq at cb
          obtain ⟨bq1, bq2, bq3, bq4⟩ := bq
          dsimp only at cb
          clear hcb hc hLQ B
          go_wp2
          go_roundw
          case rel => exact ⟨q + 1, max R' LQ, by omega, by go_num, (by rw [← hmx]; congr 1; split <;> omega), by omega, HG2, HB2.out⟩
          case measure => simp [intOf]; omega
        · have hlt2' : ¬ (q : Int) < (P.bl.length : Int) := by omega
          have HG2 := hide (hG'.out.next (by rw [← HP.out]; omega))
          have HB2 := hide (HB.out.trans (B.mono HB.out.size))
          clear B
          go_wp2
          go_roundw
          case rel => exact ⟨m + 1, R', by omega, by go_num, rfl, hR', HG2, HB2.out⟩
          case measure => simp [intOf]; omega
    · have hlt' : ¬ (m : Int) < (n : Int) := by omega
      have HG := hide (show GB (pmS ms) (pmS ms).length 0 R by rw [hpl, ← show m = n by omega]; exact hG.out)
      have HB := hide B
      clear B hG
      go_wp2
      go_ret
      exact ⟨R, rfl, by first | exact HG.out | (have := HG.out; rw [hpl] at this; exact this), HB.out⟩
end Go.Proofs.YtngdgogjlpjjpaeGreat

namespace Go.Proofs.YtngdgogjlpjjpaeGreat
open Go.RowKit
set_option linter.unusedVariables false
set_option linter.unusedSimpArgs false
set_option maxRecDepth 100000

set_option maxHeartbeats 2000000 in
theorem placeS_any (g : Nat) (x : Int) (a : Option Addr) (n cap : Nat) (w : World) (h : Blk w g #[.int .i64 x, .func (.func 187) #[] #[]] 266) (hx0 : 0 ≤ x) (hx1 : x ≤ 1000000) (hn : n ≤ 65535) :
    Calls Tryz.prog 230 #[.pointer (some ⟨g, 0, none⟩), .slice a n cap] w fun e w' => e = .returned (.int .i64 x) ∧ Blk w' g #[.int .i64 (x + rnd (4 * (n : Int))), .func (.func 187) #[] #[]] 266 ∧ Turn (fun j => j = g) w w' := by
  have c0 : w.cell? ⟨g, 0, none⟩ = some (.int .i64 x) := h.cell 0
  have c1 : w.cell? ⟨g, 1, none⟩ = some (.func (.func 187) #[] #[]) := h.cell 1
  have f0 := h.frozen 0
  have rR := rnd_range (x := 4 * (n : Int)) (by omega)
  obtain ⟨RR, hRR⟩ : ∃ RR, RR = rnd (4 * (n : Int)) := ⟨_, rfl⟩
  have HW := hide (fun W => wordBytes_any a n cap W (by omega))
  rw [← hRR] at rR HW ⊢
  have hw : IntKind.i64.wrap (x + RR) = x + RR := wraps62 _ (by omega) (by omega)
  have HF := hide (show Blk ((w.setCell ⟨g, 0, none⟩ (.int .i64 (x + RR))).drew) g #[.int .i64 (x + RR), .func (.func 187) #[] #[]] 266 ∧ Turn (fun j => j = g) w ((w.setCell ⟨g, 0, none⟩ (.int .i64 (x + RR))).drew) from ⟨h.set 0 (.int .i64 (x + RR)), turn_d1 (turn_set w g 0 (.int .i64 (x + RR)))⟩)
  clear h hRR
  go_enter Tryz.func230, Tryz.ntmps230
  go_wp2_with fail
  go_region_law (first
    | (go_simp; go_at_call 187; refine (HW.out _).mono ?_; rintro e wz ⟨rfl, rfl⟩))
  all_goals
    go_wp2
    go_ret
    exact ⟨rfl, HF.out.1, HF.out.2⟩
set_option maxHeartbeats 2000000 in
theorem placeI_any (g : Nat) (x v : Int) (w : World) (h : Blk w g #[.int .i64 x, .func (.func 229) #[] #[]] 268) (hx0 : 0 ≤ x) (hx1 : x ≤ 1000000) (hv0 : 0 ≤ v) (hv1 : v ≤ 1000000) :
    Calls Tryz.prog 232 #[.pointer (some ⟨g, 0, none⟩), .int .i64 v] w fun e w' => e = .returned (.int .i64 x) ∧ Blk w' g #[.int .i64 (x + rnd v), .func (.func 229) #[] #[]] 268 ∧ Turn (fun j => j = g) w w' := by
  have c0 : w.cell? ⟨g, 0, none⟩ = some (.int .i64 x) := h.cell 0
  have c1 : w.cell? ⟨g, 1, none⟩ = some (.func (.func 229) #[] #[]) := h.cell 1
  have f0 := h.frozen 0
  have rR := rnd_range hv0
  obtain ⟨RR, hRR⟩ : ∃ RR, RR = rnd v := ⟨_, rfl⟩
  have HW := hide (fun W => roundUp_any v W hv0 (by omega))
  rw [← hRR] at rR HW ⊢
  have hw : IntKind.i64.wrap (x + RR) = x + RR := wraps62 _ (by omega) (by omega)
  have HF := hide (show Blk ((w.setCell ⟨g, 0, none⟩ (.int .i64 (x + RR))).drew) g #[.int .i64 (x + RR), .func (.func 229) #[] #[]] 268 ∧ Turn (fun j => j = g) w ((w.setCell ⟨g, 0, none⟩ (.int .i64 (x + RR))).drew) from ⟨h.set 0 (.int .i64 (x + RR)), turn_d1 (turn_set w g 0 (.int .i64 (x + RR)))⟩)
  clear h hRR
  go_enter Tryz.func232, Tryz.ntmps232
  go_wp2_with fail
  go_region_law (first
    | (go_simp; go_at_call 229; refine (HW.out _).mono ?_; rintro e wz ⟨rfl, rfl⟩))
  all_goals
    go_wp2
    go_ret
    exact ⟨rfl, HF.out.1, HF.out.2⟩
end Go.Proofs.YtngdgogjlpjjpaeGreat

namespace Go.Proofs.YtngdgogjlpjjpaeGreat
open Go.RowKit
set_option linter.unusedVariables false
set_option linter.unusedSimpArgs false
set_option maxRecDepth 100000

/-- addresses one behind the other -/
def bkx (P : PMod) (x : Int) (k : Nat) : List Int := (List.range k).map fun j => x + fsum P j
theorem bkx_len (P : PMod) (x : Int) (k : Nat) : (bkx P x k).length = k := by simp [bkx]
theorem bkx_succ (P : PMod) (x : Int) (k : Nat) : bkx P x (k + 1) = bkx P x k ++ [x + fsum P k] := by simp [bkx, List.range_succ]

set_option maxHeartbeats 4000000 in
theorem placeAll_any (g : Nat) (x : Int) (P : PMod) (ba : Option Addr) (bc : Nat) (bl : List Bk) (w0 w : World) (h : Blk w g #[.int .i64 x, .func (.func 187) #[] #[]] 266) (hP : mdoP P = 0) (hx0 : 0 ≤ x) (hx1 : x ≤ 900000) (hB : Below w0.heap.size w0 w) (hg : w0.heap.size ≤ g) (hb : BKS w0 ba P.bl.length bc bl) (hlen : ∀ j, j < P.bl.length → (bl.getD j zB).2.1 = (P.bl.getD j []).length) :
    Calls Tryz.prog 231 #[.pointer (some ⟨g, 0, none⟩), .slice ba P.bl.length bc] w fun e w' => ∃ a' c', e = .returned (.slice a' P.bl.length c') ∧ OG 3 1 clI w' w.heap.size (.slice a' P.bl.length c') (bkx P x P.bl.length) ∧ Blk w' g #[.int .i64 (x + fsum P P.bl.length), .func (.func 187) #[] #[]] 266 ∧ Turn (fun j => j = g) w w' := by
  obtain ⟨iI, hiI, hz0, hz1, hz2⟩ := info_parts infoI
  obtain ⟨_, _, _, vb, _, _, _, vbk⟩ := vld_en hP
  have HFS := hide (fun k hk => fsum_range hP k hk)
  have HBB := hide (fun (W : World) (t : Turn (fun j => j = g) w W) => hb.below (below_turn hB t (fun j hj => by have e : j = g := hj; omega) hB.size))
  have HLEN := hide hlen
  have hgl := h.lt
  have HH := hide h
  clear h hb hlen hB hP
  go_enter Tryz.func231, Tryz.ntmps231
  go_wp2
  go_loopw [5, 10] (fun v i wr => ∃ (q : Nat) (a' : Option Addr) (c' : Nat), q ≤ P.bl.length ∧ i = .int .i64 q ∧ v = .slice a' q c' ∧ OG 3 1 clI wr w.heap.size (.slice a' q c') (bkx P x q) ∧ Blk wr g #[.int .i64 (x + fsum P q), .func (.func 187) #[] #[]] 266 ∧ Turn (fun j => j = g) w wr) (fun _ i _ => P.bl.length - (intOf i).toNat)
  case atStart => exact ⟨0, none, 0, Nat.zero_le _, rfl, rfl, og_nil _ _ _ _ _, by have := HH.out; rw [show x + fsum P 0 = x by simp [fsum]]; exact this, Turn.refl _ _⟩
  case round =>
    obtain ⟨q, a', c', hq, rfl, rfl, O, B, T⟩ := hrel
    by_cases hlt : q < P.bl.length
    · have hlt' : (q : Int) < (P.bl.length : Int) := by omega
      obtain ⟨_, _, hcb, _, _⟩ := HBB.out wr T
      obtain ⟨b2, off2, rfl, hc⟩ := hcb (by omega)
      have cb := hc q hlt
      rw [HLEN.out q hlt] at cb
      have hLq := vbk q hlt
      obtain ⟨LQ, hLQ⟩ : ∃ LQ, LQ = (P.bl.getD q []).length := ⟨_, rfl⟩
      rw [← hLQ] at cb hLq
      have rq := HFS.out q (by omega)
      have HFE := hide (show x + fsum P q + rnd (4 * (LQ : Int)) = x + fsum P (q + 1) by rw [hLQ]; show _ = x + (fsum P q + rnd (4 * ((P.bl.getD q []).length : Int))); omega)
      have HSU := hide (bkx_succ P x q)
      obtain ⟨xq, hxq⟩ : ∃ xq, xq = x + fsum P q := ⟨_, rfl⟩
      rw [← hxq] at HFE HSU B
      have rxq : 0 ≤ xq ∧ xq ≤ 1000000 := by omega
      generalize bl.getD q zB = bq at cb
      obtain ⟨bq1, bq2, bq3, bq4⟩ := bq
      dsimp only at cb
      have HPL := hide (placeS_any g xq bq1 LQ bq3 wr B (by omega) (by omega) (by omega))
      have HQ := hide (And.intro O T)
      clear hcb hc hLQ hxq O B T
      go_wp2_with fail
      refine HPL.out.mono ?_
      rintro e w1 ⟨rfl, B1, T1⟩
      obtain ⟨O, T⟩ := HQ.out
      have O1 := O.turn T1 (fun j hj => by have e : j = g := hj; omega)
      have T2 := T.trans T1
      have al : Below w1.heap.size w1 (w1.alloc (.cells #[.int .i64 xq] 3)) := (Below.refl _ _).alloc (Nat.le_refl _) _
      have HOW := hide (show (w1.alloc (.cells #[.int .i64 xq] 3)).ownsRow w.heap.size 3 1 (.slice a' q c') q ((bkx P x q).flatMap clI) by have := O1.below al; unfold OG at this; rw [bkx_len] at this; exact this)
      have hs1 := T2.size
      have HR := hide (And.intro (O1.below al) (And.intro (B1.below al) (T2.trans (turn_below al))))
      clear O T O1 T2 al B1 T1 HPL HQ cb
      go_wp2_with (at_builtin; refine wpList_append_own _ rfl _ _ 24 rfl w.heap.size 3 iI (.int .i64 0) 1 8 Tryz.underlying24 hiI hz0 hz1 hz2 rfl (by decide) (.slice a' q c') q ((bkx P x q).flatMap clI) rfl HOW.out ⟨w1.heap.size, 0, none⟩ 1 1 (clI xq) rfl rfl (cells_new w1 _ _ (clI xq) rfl) (by intro u hu; simp [clI] at hu; subst hu; rfl) (by unfold maxLen; omega) (by omega) (by simp; omega) ?_; intro v' w4 hown hgr _)
      obtain ⟨O1, B1, T1⟩ := HR.out
      have hrow : ∀ j, (Value.slice a' q c').ownBlock = some j → w.heap.size ≤ j := fun j hj => (O1.lt j hj).1
      have O4 : OG 3 1 clI w4 w.heap.size v' (bkx P x (q + 1)) := by
        unfold OG
        rw [bkx_len, HSU.out, List.flatMap_append, List.flatMap_singleton]
        exact hown
      have B4 := blk_grown B1 hgr (fun e => by have := hrow _ e.symm; omega)
      have T4 := turn_grown T1 hgr hrow
      obtain ⟨a4, c4, rfl⟩ := og_shape O4
      rw [bkx_len] at O4
      have HX := hide (And.intro O4 (And.intro B4 T4))
      have HL := hide (bkx_len P x (q + 1))
      clear O1 B1 T1 hrow O4 B4 T4 hown hgr HR HOW
      go_roundw
      case rel => exact ⟨q + 1, a4, c4, by omega, by go_num, by rw [HL.out], HX.out.1, by rw [← HFE.out]; exact HX.out.2.1, HX.out.2.2⟩
      case measure => simp [intOf]; omega
    · have hlt' : ¬ (q : Int) < (P.bl.length : Int) := by omega
      have e : q = P.bl.length := by omega
      rw [e] at O B
      have HX := hide (And.intro O (And.intro B T))
      have HE := hide e
      clear O B T e
      go_wp2
      go_ret
      exact ⟨a', c', by rw [← HE.out]; rfl, HX.out.1, HX.out.2.1, HX.out.2.2⟩
end Go.Proofs.YtngdgogjlpjjpaeGreat

namespace Go.Proofs.YtngdgogjlpjjpaeGreat
open Go.RowKit
set_option linter.unusedVariables false
set_option linter.unusedSimpArgs false
set_option maxRecDepth 100000

/-- heads that were made at once, a row each -/
structure Tf (w : World) (base g n : Nat) (f : Nat → TB) : Prop where
  head : ∃ cs, Blk w g cs 189 ∧ cs.size = n ∧ ∀ i, i < n → cs[i]? = some (svT (f i))
  rows : ∀ i, i < n → OG 71 3 clG w base (svT (f i)) (f i).1
  apart : ∀ i j, i < n → j < n → i ≠ j → ∀ k, (svT (f i)).ownBlock = some k → (svT (f j)).ownBlock ≠ some k
theorem Tf.below {w w' : World} {base g n : Nat} {f : Nat → TB} (h : Tf w base g n f) (hb : Below w.heap.size w w') : Tf w' base g n f :=
  ⟨by obtain ⟨cs, h1, h2, h3⟩ := h.head; exact ⟨cs, h1.below hb, h2, h3⟩, fun i hi => (h.rows i hi).below hb, h.apart⟩
theorem Tf.cell {w : World} {base g n : Nat} {f : Nat → TB} (h : Tf w base g n f) (i : Nat) (hi : i < n) : w.cell? ⟨g, i, none⟩ = some (svT (f i)) ∧ w.frozen? ⟨g, i, none⟩ = false := by
  obtain ⟨cs, h1, h2, h3⟩ := h.head
  exact ⟨(h1.cell i).trans (h3 i hi), h1.frozen i⟩
theorem Tf.lt {w : World} {base g n : Nat} {f : Nat → TB} (h : Tf w base g n f) : g < w.heap.size ∧ ∀ i, i < n → ∀ k, (svT (f i)).ownBlock = some k → base ≤ k ∧ k < w.heap.size := by
  obtain ⟨cs, h1, _⟩ := h.head
  exact ⟨h1.lt, fun i hi => (h.rows i hi).lt⟩
/-- one row grown, its head laid anew -/
theorem Tf.update {W W' : World} {base g n m : Nat} {f : Nat → TB} {x : TB} {g4 c4 : Nat} (h : Tf W base g n f) (hm : m < n) (hg : W.grownBy W' (svT (f m)).ownBlock) (hx : OG 71 3 clG W' base (svT x) x.1) (hs : svT x = .slice (some ⟨g4, 0, none⟩) x.1.length c4) (hat : (svT (f m)).ownBlock = some g4 ∨ g4 = W.heap.size) : Tf (W'.setCell ⟨g, m, none⟩ (svT x)) base g n (fun i => if i = m then x else f i) := by
  obtain ⟨cs, h1, h2, h3⟩ := h.head
  have hk : ∀ k, (svT (f m)).ownBlock = some k → k ≠ g := fun k hk e => by subst e; exact kind_no (h.rows m hm) hk h1 (by decide)
  have hb : Blk W' g cs 189 := blk_grown h1 hg (fun e => hk g e.symm rfl)
  have tx := turn_set W' g m (svT x)
  have hng : ∀ (u : Value) (ys : List Tg), OG 71 3 clG W' base u ys → ∀ k, u.ownBlock = some k → ¬ (fun j => j = g) k := fun u ys ho k hk' e => by
    have e' : k = g := e
    subst e'
    exact kind_no ho hk' hb (by decide)
  refine ⟨⟨cs.setIfInBounds m (svT x), hb.set m (svT x), by simp [h2], fun i hi => ?_⟩, fun i hi => ?_, fun i j hi hj hij k hk1 => ?_⟩
  · by_cases e : i = m
    · subst e; simp [h2, hi]
    · simp only [e, if_false]
      rw [Array.getElem?_setIfInBounds_ne (fun e' => e e'.symm)]
      exact h3 i hi
  · by_cases e : i = m
    · simp only [e, if_true]
      exact hx.kept tx (hng _ _ hx)
    · simp only [e, if_false]
      have o := (h.rows i hi).kept' hg (fun k hk' e' => h.apart i m hi hm e k hk' e')
      exact o.kept tx (hng _ _ o)
  · have hx4 : (svT x).ownBlock = some g4 := by rw [hs]; rfl
    by_cases e1 : i = m
    · have e2 : ¬ j = m := fun e => hij (e1.trans e.symm)
      simp only [e1, e2, if_true, if_false] at hk1 ⊢
      rw [hx4] at hk1
      simp at hk1
      subst hk1
      rcases hat with h5 | h5
      · exact fun e => h.apart m j hm hj (fun e' => e2 e'.symm) g4 h5 e
      · exact fun e => by have := (h.lt.2 j hj g4 e).2; omega
    · by_cases e2 : j = m
      · simp only [e1, e2, if_true, if_false] at hk1 ⊢
        rw [hx4]
        intro e
        simp at e
        subst e
        rcases hat with h5 | h5
        · exact h.apart i m hi hm e1 g4 hk1 h5
        · have := (h.lt.2 i hi g4 hk1).2; omega
      · simp only [e1, e2, if_false] at hk1 ⊢
        exact h.apart i j hi hj hij k hk1
theorem made_rows {w : World} {base g n : Nat} (h : w.ownsRow base 189 1 (.slice (some ⟨g, 0, none⟩) n n) n (madeCells (Value.cells (.slice none 0 0)) (n * 1)).toList) (lo : Nat) : Tf w lo g n (fun _ => ([], none, 0)) := by
  obtain ⟨hl, h | ⟨g', cap, cur, hv, hb, hh, h1, h2, h3, h4⟩⟩ := h
  · simp at h
  · simp at hv
    obtain ⟨rfl, rfl⟩ := hv
    have e : cur.toList = (madeCells (Value.cells (.slice none 0 0)) (n * 1)).toList := by
      rw [← h4, List.take_of_length_le (by simp [h3])]
    have e2 : cur = madeCells (Value.cells (.slice none 0 0)) (n * 1) := Array.toList_inj.1 e
    refine ⟨⟨cur, hh, by simpa using h3, fun i hi => ?_⟩, fun i hi => og_nil _ _ _ _ _, fun i j _ _ _ k hk => by simp [svT, Value.ownBlock] at hk⟩
    rw [e2]
    simp [madeCells, Value.cells, svT, hi, Nat.mod_one]
/-- the heads as a row -/
theorem Tf.otg {w : World} {base g n c : Nat} {f : Nat → TB} (h : Tf w base g n f) (hg : base ≤ g) (hn : n ≤ maxLen) (hc : c = n) : OTg w base base (.slice (some ⟨g, 0, none⟩) ((List.range n).map f).length c) ((List.range n).map f) := by
  subst hc
  obtain ⟨cs, h1, h2, h3⟩ := h.head
  refine ⟨⟨?_, .inr ⟨g, c, cs, by simp, hg, h1, by simp, hn, by simpa using h2, ?_⟩⟩, fun x hx => ?_, ?_⟩
  · rw [show ((List.range c).map f).flatMap clTB = (List.range c).map (fun i => svT (f i)) by rw [List.flatMap_map]; exact flat_one _ _]
    simp
  · apply List.ext_getElem?
    intro i
    rw [show ((List.range c).map f).flatMap clTB = (List.range c).map (fun i => svT (f i)) by rw [List.flatMap_map]; exact flat_one _ _]
    by_cases hi : i < c
    · rw [List.getElem?_take, if_pos (by simpa using hi), Array.getElem?_toList, h3 i hi]
      simp [hi]
    · rw [List.getElem?_eq_none (by simp; omega), List.getElem?_eq_none (by simp; omega)]
  · simp at hx
    obtain ⟨i, hi, rfl⟩ := hx
    exact h.rows i hi
  · rw [List.pairwise_iff_getElem]
    intro i j hi hj hij k hk
    simp at hi hj hk ⊢
    exact h.apart i j hi hj (by omega) k hk
end Go.Proofs.YtngdgogjlpjjpaeGreat
