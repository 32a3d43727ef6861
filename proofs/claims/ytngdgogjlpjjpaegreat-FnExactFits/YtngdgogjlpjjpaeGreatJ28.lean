import Derived.Test.YtngdgogjlpjjpaeGreatJ27
namespace Go.Proofs.YtngdgogjlpjjpaeGreat
open Go.RowKit
set_option linter.unusedVariables false
set_option linter.unusedSimpArgs false
set_option maxRecDepth 100000

/-- the longest of the banks seen -/
def GB (ps : List PMod) (m q R : Nat) : Prop := (∀ i, i < ps.length → ∀ k, k < (ps.getD i zP).bl.length → (i < m ∨ (i = m ∧ k < q)) → ((ps.getD i zP).bl.getD k []).length ≤ R) ∧ (R = 0 ∨ ∃ i, i < ps.length ∧ ∃ k, k < (ps.getD i zP).bl.length ∧ ((ps.getD i zP).bl.getD k []).length = R)
theorem gb_zero (ps : List PMod) : GB ps 0 0 0 := ⟨fun i _ k _ h => by omega, .inl rfl⟩
theorem GB.next {ps : List PMod} {m q R : Nat} (h : GB ps m q R) (hq : (ps.getD m zP).bl.length ≤ q) : GB ps (m + 1) 0 R :=
  ⟨fun i hi k hk e => h.1 i hi k hk (by
    by_cases e2 : i = m
    · subst e2; right; exact ⟨rfl, by omega⟩
    · left; omega), h.2⟩
theorem GB.step {ps : List PMod} {m q R : Nat} (h : GB ps m q R) (hm : m < ps.length) (hq : q < (ps.getD m zP).bl.length) : GB ps m (q + 1) (max R ((ps.getD m zP).bl.getD q []).length) := by
  refine ⟨fun i hi k hk e => ?_, ?_⟩
  · by_cases e2 : i = m ∧ k = q
    · obtain ⟨rfl, rfl⟩ := e2; omega
    · have := h.1 i hi k hk (by omega); omega
  · by_cases hc : ((ps.getD m zP).bl.getD q []).length ≤ R
    · rw [show max R ((ps.getD m zP).bl.getD q []).length = R by omega]
      exact h.2
    · exact .inr ⟨m, hm, q, hq, by omega⟩
theorem gb_shrt {ps : List PMod} {R : Nat} (h : GB ps ps.length 0 R) (w : Int) (hw : 1 ≤ w) : (w < (R : Int)) ↔ ¬ shrt ps w := by
  constructor
  · intro h1 hs
    rcases h.2 with h2 | ⟨i, hi, k, hk, e⟩
    · omega
    · have := hs i hi k hk
      omega
  · intro hs
    apply Classical.byContradiction
    intro hn
    exact hs (fun i hi k hk => by have := h.1 i hi k hk (.inl hi); omega)

set_option maxHeartbeats 4000000 in
theorem greatestBank_any (a : Option Addr) (n cap : Nat) (ms : List Md) (w : World) (h : MSD w a n cap ms) (hv : vlds (pmS ms)) (hn4 : n ≤ 4) :
    Calls Tryz.prog 169 #[.slice a n cap] w fun e w' => ∃ R : Nat, e = .returned (.int .i64 (R : Int)) ∧ GB (pmS ms) (pmS ms).length 0 R ∧ Below w.heap.size w w' := by
  have hl := h.s.1
  have hpl : (pmS ms).length = n := by rw [pmS_len, hl]
  have HH := hide h
  have HVL := hide hv
  clear h hv
  go_enter Tryz.func169, Tryz.ntmps169
  go_wp2
  go_loopw [3, 10] (fun x i wr => ∃ (m R : Nat), m ≤ n ∧ i = .int .i64 m ∧ x = .int .i64 (R : Int) ∧ R ≤ 64 ∧ Hid (GB (pmS ms) m 0 R) ∧ Below w.heap.size w wr) (fun _ i _ => n - (intOf i).toNat)
  case atStart => exact ⟨0, 0, Nat.zero_le _, rfl, rfl, Nat.zero_le _, hide (gb_zero _), Below.refl _ _⟩
  case round =>
    obtain ⟨m, R, hm, rfl, rfl, hR, hG, B⟩ := hrel
    by_cases hlt : m < n
    · have hlt' : (m : Int) < (n : Int) := by omega
      have H := HH.out.below B
      obtain ⟨b, off, rfl, q0, q1, q2, q3, q4, q5, q6, q7⟩ := H.s.at m hlt
      have hmd := H.d m hlt
      obtain ⟨P, hP⟩ : ∃ P, P = (pmS ms).getD m zP := ⟨_, rfl⟩
      have hPM : P = (ms.getD m zMd).pm := hP.trans (pmS_at (by omega))
      have hvm := HVL.out m (by omega)
      rw [← hP] at hvm
      obtain ⟨_, _, _, vb, _, _, _, vbk⟩ := vld_en hvm
      have eB : (ms.getD m zMd).bn = P.bl.length := by rw [hPM]; show _ = (List.map _ _).length; rw [List.length_map]; exact hmd.b.1.symm
      have HBK := hide (show ∀ j, j < P.bl.length → ((ms.getD m zMd).bl.getD j zB).2.1 = (P.bl.getD j []).length from fun j hj => by rw [hPM]; exact (pm_bank hmd j (by omega)).1)
      have HMB := hide (fun (W : World) (hb : Below wr.heap.size wr W) => (MD.below hmd hb).b)
      have HP := hide hP
      rw [eB] at q2
      have HEB := hide eB
      have HB := hide B
      generalize ms.getD m zMd = M at *
      generalize M.ba = ba at *
      have al : Below wr.heap.size wr (wr.alloc (.cells #[.string M.nm, .slice M.ta M.tn M.tc, .slice ba P.bl.length M.bc, .slice M.da M.dn M.dc, .int .i64 M.bss, .slice M.ra M.rn M.rc, .slice M.ia M.im M.ic, .slice M.ea M.en M.ec] 104)) := (Below.refl _ _).alloc (Nat.le_refl _) _
      obtain ⟨g0, g1, g2, g3, g4, g5, g6, g7⟩ := (Blk.new wr #[.string M.nm, .slice M.ta M.tn M.tc, .slice ba P.bl.length M.bc, .slice M.da M.dn M.dc, .int .i64 M.bss, .slice M.ra M.rn M.rc, .slice M.ia M.im M.ic, .slice M.ea M.en M.ec] 104).eight
      have HAL := hide al
      clear B H hmd hP hPM eB al hvm
      generalize wr = wo at *
      go_wp2_with fail
      go_loopw [3, 17] (fun x i wx => ∃ (q R : Nat), q ≤ P.bl.length ∧ i = .int .i64 q ∧ x = .int .i64 (R : Int) ∧ R ≤ 64 ∧ Hid (GB (pmS ms) m q R) ∧ Below wo.heap.size wo wx) (fun _ i _ => P.bl.length - (intOf i).toNat)
      case atStart => exact ⟨0, R, Nat.zero_le _, rfl, rfl, hR, hG, HAL.out⟩
      case round =>
        obtain ⟨q, R', hq, rfl, rfl, hR', hG', B⟩ := hrel
        by_cases hlt2 : q < P.bl.length
        · have hlt2' : (q : Int) < (P.bl.length : Int) := by omega
          obtain ⟨_, _, hcb, _, _⟩ := HMB.out wr B
          obtain ⟨b2, off2, rfl, hc⟩ := hcb (by rw [HEB.out]; omega)
          have cb := hc q (by rw [HEB.out]; exact hlt2)
          rw [HBK.out q hlt2] at cb
          have hLq := vbk q hlt2
          obtain ⟨LQ, hLQ⟩ : ∃ LQ, LQ = (P.bl.getD q []).length := ⟨_, rfl⟩
          rw [← hLQ] at cb hLq
          have HG2 := hide (show GB (pmS ms) m (q + 1) (max R' LQ) by rw [hLQ, HP.out]; exact hG'.out.step (by omega) (by rw [← HP.out]; exact hlt2))
          have hmx : max (R' : Int) (LQ : Int) = ((max R' LQ : Nat) : Int) := by omega
          have HB2 := hide B
          generalize M.bl.getD q zB = bq at cb
          obtain ⟨bq1, bq2, bq3, bq4⟩ := bq
          dsimp only at cb
          clear hcb hc hLQ B
          go_wp2
          go_roundw
          case rel => exact ⟨q + 1, max R' LQ, by omega, by go_num, (by rw [← hmx]; congr 1; split <;> omega), by omega, HG2, HB2.out⟩
          case measure => simp [intOf]; omega
        · have hlt2' : ¬ (q : Int) < (P.bl.length : Int) := by omega
          have HG2 := hide (hG'.out.next (by rw [← HP.out]; omega))
          have HB2 := hide (HB.out.trans (B.mono HB.out.size))
          clear B
          go_wp2
          go_roundw
          case rel => exact ⟨m + 1, R', by omega, by go_num, rfl, hR', HG2, HB2.out⟩
          case measure => simp [intOf]; omega
    · have hlt' : ¬ (m : Int) < (n : Int) := by omega
      have HG := hide (show GB (pmS ms) (pmS ms).length 0 R by rw [hpl, ← show m = n by omega]; exact hG.out)
      have HB := hide B
      clear B hG
      go_wp2
      go_ret
      exact ⟨R, rfl, by first | exact HG.out | (have := HG.out; rw [hpl] at this; exact this), HB.out⟩
end Go.Proofs.YtngdgogjlpjjpaeGreat
