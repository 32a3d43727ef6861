import Derived.Test.YtngdgogjlpjjpadP11
namespace Go.Proofs.Ytngdgogjlpjjpad
open Go.RowKit
set_option linter.unusedVariables false
set_option linter.unusedSimpArgs false
set_option maxRecDepth 100000
set_option maxHeartbeats 2000000 in
theorem relocsOk_any (nm : ByteArray) (v1 v2 : Value) (da : Option Addr) (dn dc : Nat) (bss : Int) (ra : Option Addr) (rn rc : Nat) (rz : List Int) (v6 v7 : Value) (w : World) (hd : dn ≤ maxLen) (h : IS w ra rn rc rz) :
    Calls Try.prog 35 #[.agg #[.string nm, v1, v2, .slice da dn dc, .int .i64 bss, .slice ra rn rc, v6, v7]] w fun e w' => e = .returned (.bool (rlo rn rz dn)) ∧ Below w.heap.size w w' := by
  obtain ⟨W, hW⟩ : ∃ W, W = w.alloc (.cells #[.string nm, v1, v2, .slice da dn dc, .int .i64 bss, .slice ra rn rc, v6, v7] 29) := ⟨_, rfl⟩
  have hB0 : Below w.heap.size w W := by rw [hW]; exact (Below.refl _ _).alloc (Nat.le_refl _) _
  have kb : Blk W w.heap.size #[.string nm, v1, v2, .slice da dn dc, .int .i64 bss, .slice ra rn rc, v6, v7] 29 := by rw [hW]; exact Blk.new _ _ _
  obtain ⟨q0, q1, q2, q3, q4, q5, q6, q7⟩ := kb.eight
  obtain ⟨r, hr⟩ : ∃ r, r = rlo rn rz dn := ⟨_, rfl⟩
  rw [← hr]
  unfold rlo at hr
  have h0 := h.below hB0
  have hm1 := h.2.1
  unfold maxLen at hm1 hd
  have HW := hide hW
  clear hW
  by_cases c1 : 16 < rn
  · have HR := hide (show r = false by rw [hr, decide_eq_false (by omega)]; rfl)
    clear hr
    have c1' : (16 : Int) < (rn : Int) := by omega
    go_enter Try.func35, Try.ntmps35
    go_wp2_with (rw [← HW.out])
    go_ret
    exact ⟨ret_bool HR.out.symm, hB0⟩
  · have c1' : ¬ (16 : Int) < (rn : Int) := by omega
    have HR := hide (show r = (List.range rn).all (rlk rz dn) by rw [hr, decide_eq_true (by omega)]; rfl)
    clear hr
    go_enter Try.func35, Try.ntmps35
    go_wp2_with (rw [← HW.out])
    go_loop [12] (fun i => ∃ k : Nat, k ≤ rn ∧ i = .int .i64 k ∧ Hid (∀ j, j < k → rlk rz dn j = true)) (fun i => rn - (intOf i).toNat)
    case atStart => exact ⟨0, Nat.zero_le _, rfl, hide (fun j hj => by omega)⟩
    case round =>
      obtain ⟨k, hk, rfl, HJ⟩ := hrel
      by_cases hlt : k < rn
      · have hlt' : (k : Int) < (rn : Int) := by omega
        obtain ⟨bb, off, rfl⟩ := h0.addr (by omega)
        have hck := h0.at k hlt
        have HZ := hide (rng_bad (rlk rz dn) rn k hlt)
        have HG := hide (show rlk rz dn k = true → ∀ j, j < k + 1 → rlk rz dn j = true from fun h j hj => by
          by_cases e : j = k
          · subst e; exact h
          · exact HJ.out j (by omega))
        have HK := hide (show ∀ b : Bool, (b = true ↔ (0 ≤ rz.getD k 0 ∧ rz.getD k 0 % 4 = 0 ∧ rz.getD k 0 ≤ (dn : Int) - 4 ∧ (k = 0 ∨ rz.getD (k - 1) 0 < rz.getD k 0))) → rlk rz dn k = b from fun b hb => by unfold rlk; rw [Bool.eq_iff_iff, hb]; simp)
        have hrg := h0.range k
        unfold wfi at hrg
        obtain ⟨g0, g1⟩ := hrg
        have ht4 := tmod4 (rz.getD k 0)
        have HU := hide (fun w => isUpTo_any (rz.getD k 0) ((dn : Int) - 4) w)
        by_cases k0 : k = 0
        · subst k0
          simp only [Nat.add_zero] at hck
          generalize rz.getD 0 0 = z at *
          by_cases d2 : z % 4 ≠ 0
          · rw [decide_eq_true d2] at ht4
            go_wp2
            go_ret
            exact ⟨ret_bool (by rw [HR.out]; exact (HZ.out (HK.out false (by simp; omega))).symm), hB0⟩
          · rw [decide_eq_false d2] at ht4
            by_cases d3 : 0 ≤ z ∧ z ≤ (dn : Int) - 4
            · rw [decide_eq_true d3] at HU
              go_wp2_with (go_at_call 34; refine (HU.out _).mono ?_; rintro e w1 ⟨rfl, rfl⟩)
              go_round
              case rel => exact ⟨1, by omega, by go_num, hide (HG.out (HK.out true (by simp; omega)))⟩
              case measure => simp [intOf]; omega
            · rw [decide_eq_false d3] at HU
              go_wp2_with (go_at_call 34; refine (HU.out _).mono ?_; rintro e w1 ⟨rfl, rfl⟩)
              go_ret
              exact ⟨ret_bool (by rw [HR.out]; exact (HZ.out (HK.out false (by simp; omega))).symm), hB0⟩
        · have hpk := h0.at (k - 1) (by omega)
          have hk0 : (0 : Int) < (k : Int) := by omega
          have hk1 : (0 : Int) ≤ (k : Int) - 1 := by omega
          have hk2 : (k : Int) - 1 < (rn : Int) := by omega
          generalize rz.getD (k - 1) 0 = y at *
          generalize rz.getD k 0 = z at *
          by_cases d2 : z % 4 ≠ 0
          · rw [decide_eq_true d2] at ht4
            go_wp2
            go_ret
            exact ⟨ret_bool (by rw [HR.out]; exact (HZ.out (HK.out false (by simp; omega))).symm), hB0⟩
          · rw [decide_eq_false d2] at ht4
            by_cases d3 : 0 ≤ z ∧ z ≤ (dn : Int) - 4
            · rw [decide_eq_true d3] at HU
              by_cases d4 : z ≤ y
              · go_wp2_with (go_at_call 34; refine (HU.out _).mono ?_; rintro e w1 ⟨rfl, rfl⟩)
                go_ret
                exact ⟨ret_bool (by rw [HR.out]; exact (HZ.out (HK.out false (by simp; omega))).symm), hB0⟩
              · go_wp2_with (go_at_call 34; refine (HU.out _).mono ?_; rintro e w1 ⟨rfl, rfl⟩)
                go_round
                case rel => exact ⟨k + 1, by omega, by go_num, hide (HG.out (HK.out true (by simp; omega)))⟩
                case measure => simp [intOf]; omega
            · rw [decide_eq_false d3] at HU
              go_wp2_with (go_at_call 34; refine (HU.out _).mono ?_; rintro e w1 ⟨rfl, rfl⟩)
              go_ret
              exact ⟨ret_bool (by rw [HR.out]; exact (HZ.out (HK.out false (by simp; omega))).symm), hB0⟩
      · have HE := hide (rng_good (rlk rz dn) rn (fun j hj => HJ.out j (by omega)))
        go_wp2
        go_ret
        exact ⟨ret_bool (by rw [HR.out]; exact HE.out.symm), hB0⟩
def zS : ByteArray := ⟨#[]⟩
def SS (w : World) (a : Option Addr) (n cap : Nat) (ss : List ByteArray) : Prop :=
  ss.length = n ∧ n ≤ maxLen ∧ (∀ s ∈ ss, s.size ≤ 1048576) ∧ (n ≠ 0 → ∃ b off, a = some ⟨b, off, none⟩ ∧ ∀ i, i < n → w.cell? ⟨b, off + i, none⟩ = some (.string (ss.getD i zS))) ∧ n ≤ cap
theorem SS.below {w w' : World} {a : Option Addr} {n cap : Nat} {ss : List ByteArray} (h : SS w a n cap ss) (hb : Below w.heap.size w w') : SS w' a n cap ss := by
  obtain ⟨h1, h2, h3, h4, h5⟩ := h
  refine ⟨h1, h2, h3, fun hn => ?_, h5⟩
  obtain ⟨b, off, e, hc⟩ := h4 hn
  exact ⟨b, off, e, fun i hi => (hb.cell (World.block_lt_of_cell? w _ (hc i hi))).trans (hc i hi)⟩
theorem SS.addr {w : World} {a : Option Addr} {n cap : Nat} {ss : List ByteArray} (h : SS w a n cap ss) (hn : n ≠ 0) : ∃ b off, a = some ⟨b, off, none⟩ := by
  obtain ⟨b, off, e, _⟩ := h.2.2.2.1 hn
  exact ⟨b, off, e⟩
theorem SS.at {w : World} {b off n cap : Nat} {ss : List ByteArray} (h : SS w (some ⟨b, off, none⟩) n cap ss) (i : Nat) (hi : i < n) : w.cell? ⟨b, off + i, none⟩ = some (.string (ss.getD i zS)) := by
  obtain ⟨b', off', e, hc⟩ := h.2.2.2.1 (by omega)
  simp at e
  obtain ⟨rfl, rfl⟩ := e
  exact hc i hi
theorem SS.size {w : World} {a : Option Addr} {n cap : Nat} {ss : List ByteArray} (h : SS w a n cap ss) (i : Nat) : (ss.getD i zS).size ≤ 1048576 := by
  by_cases hi : i < ss.length
  · have := h.2.2.1 ss[i] (List.getElem_mem hi)
    simpa [List.getD_eq_getElem?_getD, hi] using this
  · rw [List.getD_eq_getElem?_getD, List.getElem?_eq_none (Nat.le_of_not_lt hi)]
    exact (by decide : (zS).size ≤ 1048576)
def imo (n : Nat) (ss : List ByteArray) : Bool := decide (n ≤ 16) && (List.range n).all fun k => full (ss.getD k zS)
set_option maxHeartbeats 2000000 in
theorem importsOk_any (nm : ByteArray) (v1 v2 v3 v5 v7 : Value) (bss : Int) (ia : Option Addr) (n ic : Nat) (ss : List ByteArray) (w : World) (h : SS w ia n ic ss) :
    Calls Try.prog 36 #[.agg #[.string nm, v1, v2, v3, .int .i64 bss, v5, .slice ia n ic, v7]] w fun e w' => e = .returned (.bool (imo n ss)) ∧ Below w.heap.size w w' := by
  obtain ⟨W, hW⟩ : ∃ W, W = w.alloc (.cells #[.string nm, v1, v2, v3, .int .i64 bss, v5, .slice ia n ic, v7] 29) := ⟨_, rfl⟩
  have hB0 : Below w.heap.size w W := by rw [hW]; exact (Below.refl _ _).alloc (Nat.le_refl _) _
  have kb : Blk W w.heap.size #[.string nm, v1, v2, v3, .int .i64 bss, v5, .slice ia n ic, v7] 29 := by rw [hW]; exact Blk.new _ _ _
  obtain ⟨q0, q1, q2, q3, q4, q5, q6, q7⟩ := kb.eight
  obtain ⟨r, hr⟩ : ∃ r, r = imo n ss := ⟨_, rfl⟩
  rw [← hr]
  unfold imo at hr
  have hm1 := h.2.1
  unfold maxLen at hm1
  have HW := hide hW
  clear hW
  by_cases c1 : 16 < n
  · have HR := hide (show r = false by rw [hr, decide_eq_false (by omega)]; rfl)
    clear hr
    have c1' : (16 : Int) < (n : Int) := by omega
    go_enter Try.func36, Try.ntmps36
    go_wp2_with (rw [← HW.out])
    go_ret
    exact ⟨ret_bool HR.out.symm, hB0⟩
  · have c1' : ¬ (16 : Int) < (n : Int) := by omega
    have HR := hide (show r = (List.range n).all (fun k => full (ss.getD k zS)) by rw [hr, decide_eq_true (by omega)]; rfl)
    clear hr
    go_enter Try.func36, Try.ntmps36
    go_wp2_with (rw [← HW.out])
    go_loopw [15] (fun i wr => ∃ k : Nat, k ≤ n ∧ i = .int .i64 k ∧ Hid (∀ j, j < k → full (ss.getD j zS) = true) ∧ Below w.heap.size w wr) (fun i _ => n - (intOf i).toNat)
    case atStart => exact ⟨0, Nat.zero_le _, rfl, hide (fun j hj => by omega), hB0⟩
    case round =>
      obtain ⟨k, hk, rfl, HJ, hB⟩ := hrel
      by_cases hlt : k < n
      · have hlt' : (k : Int) < (n : Int) := by omega
        obtain ⟨bb, off, rfl⟩ := h.addr (by omega)
        have hck := (h.below hB).at k hlt
        have HZ := hide (rng_bad (fun k => full (ss.getD k zS)) n k hlt)
        have HG := hide (show full (ss.getD k zS) = true → ∀ j, j < k + 1 → full (ss.getD j zS) = true from fun h j hj => by
          by_cases e : j = k
          · subst e; exact h
          · exact HJ.out j (by omega))
        have HC := hide (fun w => cutImport_any (ss.getD k zS) w (h.size k))
        generalize ss.getD k zS = s at *
        cases hf : full s
        · rw [cutV, hf, if_neg (by simp)] at HC
          go_wp2_with fail
          refine (HC.out _).mono ?_
          rintro e w1 ⟨rfl, hb1⟩
          go_wp2
          go_ret
          exact ⟨ret_bool (by rw [HR.out]; exact (HZ.out hf).symm), hB.trans (hb1.mono hB.size)⟩
        · rw [cutV, hf, if_pos rfl] at HC
          go_wp2_with fail
          refine (HC.out _).mono ?_
          rintro e w1 ⟨rfl, hb1⟩
          go_wp2
          go_roundw
          case rel => exact ⟨k + 1, by omega, by go_num, hide (HG.out hf), hB.trans (hb1.mono hB.size)⟩
          case measure => simp [intOf]; omega
      · have HE := hide (rng_good (fun k => full (ss.getD k zS)) n (fun j hj => HJ.out j (by omega)))
        go_wp2
        go_ret
        exact ⟨ret_bool (by rw [HR.out]; exact HE.out.symm), hB⟩
def pcn (tn bn : Nat) (bl : List Bk) (b : Int) : Int := if b = -1 then (tn : Int) else if 0 ≤ b ∧ b < (bn : Int) then ((bl.getD b.toNat zB).2.1 : Int) else -1
def PiPost (w : World) (ta : Option Addr) (tn tc bn : Nat) (bl : List Bk) (b : Int) (e : Ending) (w' : World) : Prop :=
  ∃ a n c ok, e = .returned (.tuple #[.slice a n c, .bool ok]) ∧ ok = decide (0 ≤ pcn tn bn bl b) ∧ (ok = true → (n : Int) = pcn tn bn bl b) ∧ n ≤ maxLen ∧ Below w.heap.size w w'
set_option maxHeartbeats 2000000 in
theorem l4Piece_any (nm : ByteArray) (ta : Option Addr) (tn tc : Nat) (ba : Option Addr) (bn bc : Nat) (bl : List Bk) (v3 v5 v6 v7 : Value) (bss b : Int) (w : World) (htn : tn ≤ maxLen) (hb : BKS w ba bn bc bl) :
    Calls Try.prog 96 #[.agg #[.string nm, .slice ta tn tc, .slice ba bn bc, v3, .int .i64 bss, v5, v6, v7], .int .i64 b] w (PiPost w ta tn tc bn bl b) := by
  obtain ⟨W, hW⟩ : ∃ W, W = w.alloc (.cells #[.string nm, .slice ta tn tc, .slice ba bn bc, v3, .int .i64 bss, v5, v6, v7] 29) := ⟨_, rfl⟩
  have hB0 : Below w.heap.size w W := by rw [hW]; exact (Below.refl _ _).alloc (Nat.le_refl _) _
  have kb : Blk W w.heap.size #[.string nm, .slice ta tn tc, .slice ba bn bc, v3, .int .i64 bss, v5, v6, v7] 29 := by rw [hW]; exact Blk.new _ _ _
  obtain ⟨q0, q1, q2, q3, q4, q5, q6, q7⟩ := kb.eight
  have hb0 := hb.below hB0
  have hm2 := hb.2.1
  unfold maxLen at hm2
  have HW := hide hW
  clear hW
  by_cases c1 : b = -1
  · subst c1
    have HP := hide (show pcn tn bn bl (-1) = (tn : Int) from rfl)
    go_enter Try.func96, Try.ntmps96
    go_wp2_with (rw [← HW.out])
    go_ret2
    exact ⟨ta, tn, tc, true, rfl, by rw [HP.out]; simp, fun _ => HP.out.symm, htn, hB0⟩
  · have c1' : (b == -1) = false := by simpa using c1
    by_cases c2 : b < 0
    · have HP := hide (show pcn tn bn bl b = -1 by unfold pcn; rw [if_neg c1, if_neg (by omega)])
      go_enter Try.func96, Try.ntmps96
      go_wp2_with (rw [← HW.out])
      go_ret2
      exact ⟨_, 0, 0, false, rfl, by rw [HP.out]; rfl, (by intro h; cases h), Nat.zero_le _, by first | exact hB0.alloc hB0.size _ | exact hB0⟩
    · by_cases c3 : (bn : Int) ≤ b
      · have HP := hide (show pcn tn bn bl b = -1 by unfold pcn; rw [if_neg c1, if_neg (by omega)])
        go_enter Try.func96, Try.ntmps96
        go_wp2_with (rw [← HW.out])
        go_ret2
        exact ⟨_, 0, 0, false, rfl, by rw [HP.out]; rfl, (by intro h; cases h), Nat.zero_le _, by first | exact hB0.alloc hB0.size _ | exact hB0⟩
      · have c3' : b < (bn : Int) := by omega
        have HP := hide (show pcn tn bn bl b = ((bl.getD b.toNat zB).2.1 : Int) by unfold pcn; rw [if_neg c1, if_pos (by omega)])
        obtain ⟨bb, off, rfl⟩ := hb0.addr (by omega)
        have hck := hb0.at b.toNat (by omega)
        have hik := hb0.2.2.2.1 b.toNat (by omega)
        generalize bl.getD b.toNat zB = B at *
        obtain ⟨xa, xn, xc, xz⟩ := B
        dsimp only at hck hik HP
        have HM := hide hik.2.1
        clear hik
        have c2' : 0 ≤ b := by omega
        go_enter Try.func96, Try.ntmps96
        go_wp2_with (rw [← HW.out])
        go_ret2
        exact ⟨xa, xn, xc, true, rfl, by rw [HP.out]; simp, fun _ => HP.out.symm, HM.out, hB0⟩
set_option maxHeartbeats 2000000 in
theorem pieceOf_any (nm : ByteArray) (ta : Option Addr) (tn tc : Nat) (ba : Option Addr) (bn bc : Nat) (bl : List Bk) (v3 v5 v6 v7 : Value) (bss b : Int) (w : World) (htn : tn ≤ maxLen) (hb : BKS w ba bn bc bl) :
    Calls Try.prog 84 #[.agg #[.string nm, .slice ta tn tc, .slice ba bn bc, v3, .int .i64 bss, v5, v6, v7], .int .i64 b] w (PiPost w ta tn tc bn bl b) := by
  obtain ⟨W, hW⟩ : ∃ W, W = w.alloc (.cells #[.string nm, .slice ta tn tc, .slice ba bn bc, v3, .int .i64 bss, v5, v6, v7] 29) := ⟨_, rfl⟩
  have hB0 : Below w.heap.size w W := by rw [hW]; exact (Below.refl _ _).alloc (Nat.le_refl _) _
  have kb : Blk W w.heap.size #[.string nm, .slice ta tn tc, .slice ba bn bc, v3, .int .i64 bss, v5, v6, v7] 29 := by rw [hW]; exact Blk.new _ _ _
  obtain ⟨q0, q1, q2, q3, q4, q5, q6, q7⟩ := kb.eight
  have hb0 := hb.below hB0
  have hm2 := hb.2.1
  unfold maxLen at hm2
  have HW := hide hW
  clear hW
  by_cases c1 : b = -1
  · subst c1
    have HP := hide (show pcn tn bn bl (-1) = (tn : Int) from rfl)
    go_enter Try.func84, Try.ntmps84
    go_wp2_with (rw [← HW.out])
    go_ret2
    exact ⟨ta, tn, tc, true, rfl, by rw [HP.out]; simp, fun _ => HP.out.symm, htn, hB0⟩
  · have c1' : (b == -1) = false := by simpa using c1
    by_cases c2 : b < 0
    · have HP := hide (show pcn tn bn bl b = -1 by unfold pcn; rw [if_neg c1, if_neg (by omega)])
      go_enter Try.func84, Try.ntmps84
      go_wp2_with (rw [← HW.out])
      go_ret2
      exact ⟨_, 0, 0, false, rfl, by rw [HP.out]; rfl, (by intro h; cases h), Nat.zero_le _, by first | exact hB0.alloc hB0.size _ | exact hB0⟩
    · by_cases c3 : (bn : Int) ≤ b
      · have HP := hide (show pcn tn bn bl b = -1 by unfold pcn; rw [if_neg c1, if_neg (by omega)])
        go_enter Try.func84, Try.ntmps84
        go_wp2_with (rw [← HW.out])
        go_ret2
        exact ⟨_, 0, 0, false, rfl, by rw [HP.out]; rfl, (by intro h; cases h), Nat.zero_le _, by first | exact hB0.alloc hB0.size _ | exact hB0⟩
      · have c3' : b < (bn : Int) := by omega
        have HP := hide (show pcn tn bn bl b = ((bl.getD b.toNat zB).2.1 : Int) by unfold pcn; rw [if_neg c1, if_pos (by omega)])
        obtain ⟨bb, off, rfl⟩ := hb0.addr (by omega)
        have hck := hb0.at b.toNat (by omega)
        have hik := hb0.2.2.2.1 b.toNat (by omega)
        generalize bl.getD b.toNat zB = B at *
        obtain ⟨xa, xn, xc, xz⟩ := B
        dsimp only at hck hik HP
        have HM := hide hik.2.1
        clear hik
        have c2' : 0 ≤ b := by omega
        go_enter Try.func84, Try.ntmps84
        go_wp2_with (rw [← HW.out])
        go_ret2
        exact ⟨xa, xn, xc, true, rfl, by rw [HP.out]; simp, fun _ => HP.out.symm, HM.out, hB0⟩
abbrev Ex := ByteArray × Int × Int
def zE : Ex := (zS, 0, 0)
def ES (w : World) (a : Option Addr) (n cap : Nat) (es : List Ex) : Prop :=
  es.length = n ∧ n ≤ maxLen ∧ (∀ e ∈ es, e.1.size ≤ 1048576) ∧ (n ≠ 0 → ∃ b off, a = some ⟨b, off, none⟩ ∧ ∀ i, i < n → w.cell? ⟨b, off + i * 3, none⟩ = some (.string (es.getD i zE).1) ∧ w.cell? ⟨b, off + i * 3 + 1, none⟩ = some (.int .i64 (es.getD i zE).2.1) ∧ w.cell? ⟨b, off + i * 3 + 2, none⟩ = some (.int .i64 (es.getD i zE).2.2)) ∧ n ≤ cap
theorem ES.below {w w' : World} {a : Option Addr} {n cap : Nat} {es : List Ex} (h : ES w a n cap es) (hb : Below w.heap.size w w') : ES w' a n cap es := by
  obtain ⟨h1, h2, h3, h4, h5⟩ := h
  refine ⟨h1, h2, h3, fun hn => ?_, h5⟩
  obtain ⟨b, off, e, hc⟩ := h4 hn
  have key : ∀ o v, w.cell? ⟨b, o, none⟩ = some v → w'.cell? ⟨b, o, none⟩ = some v := fun o v hv => (hb.cell (World.block_lt_of_cell? w _ hv)).trans hv
  exact ⟨b, off, e, fun i hi => ⟨key _ _ (hc i hi).1, key _ _ (hc i hi).2.1, key _ _ (hc i hi).2.2⟩⟩
theorem ES.addr {w : World} {a : Option Addr} {n cap : Nat} {es : List Ex} (h : ES w a n cap es) (hn : n ≠ 0) : ∃ b off, a = some ⟨b, off, none⟩ := by
  obtain ⟨b, off, e, _⟩ := h.2.2.2.1 hn
  exact ⟨b, off, e⟩
theorem ES.at {w : World} {b off n cap : Nat} {es : List Ex} (h : ES w (some ⟨b, off, none⟩) n cap es) (i : Nat) (hi : i < n) : w.cell? ⟨b, off + i * 3, none⟩ = some (.string (es.getD i zE).1) ∧ w.cell? ⟨b, off + i * 3 + 1, none⟩ = some (.int .i64 (es.getD i zE).2.1) ∧ w.cell? ⟨b, off + i * 3 + 2, none⟩ = some (.int .i64 (es.getD i zE).2.2) := by
  obtain ⟨b', off', e, hc⟩ := h.2.2.2.1 (by omega)
  simp at e
  obtain ⟨rfl, rfl⟩ := e
  exact hc i hi
theorem ES.size {w : World} {a : Option Addr} {n cap : Nat} {es : List Ex} (h : ES w a n cap es) (i : Nat) : (es.getD i zE).1.size ≤ 1048576 := by
  by_cases hi : i < es.length
  · have := h.2.2.1 es[i] (List.getElem_mem hi)
    simpa [List.getD_eq_getElem?_getD, hi] using this
  · rw [List.getD_eq_getElem?_getD, List.getElem?_eq_none (Nat.le_of_not_lt hi)]
    exact (by decide : (zE).1.size ≤ 1048576)
def ex1 (tn bn : Nat) (bl : List Bk) (x : Ex) : Bool := nmo x.1 && decide (0 ≤ x.2.2 ∧ x.2.2 < pcn tn bn bl x.2.1)
def exn (es : List Ex) (i : Nat) : Bool := (List.range i).all fun k => !((es.getD k zE).1.toList == (es.getD i zE).1.toList)
def exo (tn bn : Nat) (bl : List Bk) (n : Nat) (es : List Ex) : Bool := decide (n ≤ 16) && (List.range n).all fun i => ex1 tn bn bl (es.getD i zE) && exn es i
set_option maxHeartbeats 4000000 in
theorem l4ExportsOk_any (nm : ByteArray) (ta : Option Addr) (tn tc : Nat) (ba : Option Addr) (bn bc : Nat) (bl : List Bk) (v3 v5 v6 : Value) (bss : Int) (ea : Option Addr) (n ec : Nat) (es : List Ex) (w : World) (htn : tn ≤ maxLen) (hb : BKS w ba bn bc bl) (h : ES w ea n ec es) :
    Calls Try.prog 67 #[.agg #[.string nm, .slice ta tn tc, .slice ba bn bc, v3, .int .i64 bss, v5, v6, .slice ea n ec]] w fun e w' => e = .returned (.bool (exo tn bn bl n es)) ∧ Below w.heap.size w w' := by
  obtain ⟨W, hW⟩ : ∃ W, W = w.alloc (.cells #[.string nm, .slice ta tn tc, .slice ba bn bc, v3, .int .i64 bss, v5, v6, .slice ea n ec] 29) := ⟨_, rfl⟩
  have hB0 : Below w.heap.size w W := by rw [hW]; exact (Below.refl _ _).alloc (Nat.le_refl _) _
  have kb : Blk W w.heap.size #[.string nm, .slice ta tn tc, .slice ba bn bc, v3, .int .i64 bss, v5, v6, .slice ea n ec] 29 := by rw [hW]; exact Blk.new _ _ _
  obtain ⟨q0, q1, q2, q3, q4, q5, q6, q7⟩ := kb.eight
  obtain ⟨r, hr⟩ : ∃ r, r = exo tn bn bl n es := ⟨_, rfl⟩
  rw [← hr]
  unfold exo at hr
  have hm1 := h.2.1
  unfold maxLen at hm1
  have HW := hide hW
  clear hW
  by_cases c1 : 16 < n
  · have HR := hide (show r = false by rw [hr, decide_eq_false (by omega)]; rfl)
    clear hr
    have c1' : (16 : Int) < (n : Int) := by omega
    go_enter Try.func67, Try.ntmps67
    go_wp2_with (rw [← HW.out])
    go_ret
    exact ⟨ret_bool HR.out.symm, hB0⟩
  · have c1' : ¬ (16 : Int) < (n : Int) := by omega
    have HR := hide (show r = (List.range n).all (fun i => ex1 tn bn bl (es.getD i zE) && exn es i) by rw [hr, decide_eq_true (by omega)]; rfl)
    clear hr
    go_enter Try.func67, Try.ntmps67
    go_wp2_with (rw [← HW.out])
    clear q0 q1 q2 q3 q4 q5 q6 q7
    go_loopw [3] (fun i wr => ∃ k : Nat, k ≤ n ∧ i = .int .i64 k ∧ Hid (∀ j, j < k → (ex1 tn bn bl (es.getD j zE) && exn es j) = true) ∧ Below w.heap.size w wr ∧ Blk wr w.heap.size #[.string nm, .slice ta tn tc, .slice ba bn bc, v3, .int .i64 bss, v5, v6, .slice ea n ec] 29) (fun i _ => n - (intOf i).toNat)
    case atStart => exact ⟨0, Nat.zero_le _, rfl, hide (fun j hj => by omega), hB0, kb⟩
    case round =>
      obtain ⟨k, hk, rfl, HJ, hB, kw⟩ := hrel
      clear kb hB0
      obtain ⟨q0, q1, q2, q3, q4, q5, q6, q7⟩ := kw.eight
      by_cases hlt : k < n
      · have hlt' : (k : Int) < (n : Int) := by omega
        obtain ⟨bb, off, rfl⟩ := h.addr (by omega)
        obtain ⟨y1, y2, y3⟩ := (h.below hB).at k hlt
        have HZ := hide (rng_bad (fun i => ex1 tn bn bl (es.getD i zE) && exn es i) n k hlt)
        have HG := hide (show (ex1 tn bn bl (es.getD k zE) && exn es k) = true → ∀ j, j < k + 1 → (ex1 tn bn bl (es.getD j zE) && exn es j) = true from fun h j hj => by
          by_cases e : j = k
          · subst e; exact h
          · exact HJ.out j (by omega))
        have HN := hide (fun w => l4NameOk_any (es.getD k zE).1 w (h.size k))
        have HX := hide (show exn es k = (List.range k).all (fun j => !((es.getD j zE).1.toList == (es.getD k zE).1.toList)) from rfl)
        generalize es.getD k zE = E at *
        obtain ⟨en, eb, ei⟩ := E
        dsimp only at y1 y2 y3 HN HX
        have lkw := kw.lt
        have hb1 := hb.below (hB.alloc hB.size (.cells #[.string en, .int .i64 eb, .int .i64 ei] 58))
        have HP := hide (fun w h => l4Piece_any nm ta tn tc ba bn bc bl v3 v5 v6 (.slice (some ⟨bb, off, none⟩) n ec) bss eb w htn h)
        have kE := Blk.new wr #[.string en, .int .i64 eb, .int .i64 ei] 58
        have hA : Below wr.heap.size wr (wr.alloc (.cells #[.string en, .int .i64 eb, .int .i64 ei] 58)) := (Below.refl _ _).alloc (Nat.le_refl _) _
        go_wp2_with fail
        refine (HP.out _ hb1).mono ?_
        rintro e w1 ⟨pa, pn, px, ok, rfl, hok, hpn, hpm, hbp⟩
        have kE1 := kE.below hbp
        have kw1 := (kw.below hA).below hbp
        have hB1 := (hB.trans (hA.mono hB.size)).trans (hbp.mono (by have := hB.size; simp; omega))
        clear kE kw hA hbp hb1 HP q0 q1 q2 q3 q4 q5 q6 q7 y1 y2 y3 hB
        unfold maxLen at hpm
        have HOK := hide (And.intro hok hpn)
        clear hok hpn
        obtain ⟨z1, z2, z3, z4⟩ := kE1.three
        have HEX := hide (show ex1 tn bn bl (en, eb, ei) = (nmo en && decide (0 ≤ ei ∧ ei < pcn tn bn bl eb)) from rfl)
        cases hn : nmo en
        · rw [hn] at HN
          go_wp2_with (go_at_call 63; refine (HN.out _).mono ?_; rintro e w2 ⟨rfl, rfl⟩)
          go_ret
          exact ⟨ret_bool (by rw [HR.out]; exact (HZ.out (by rw [HEX.out, hn]; rfl)).symm), hB1⟩
        · rw [hn] at HN
          cases ok
          · have hp : ¬ 0 ≤ pcn tn bn bl eb := by have := HOK.out.1; simpa using this.symm
            go_wp2_with (go_at_call 63; refine (HN.out _).mono ?_; rintro e w2 ⟨rfl, rfl⟩)
            go_ret
            exact ⟨ret_bool (by rw [HR.out]; exact (HZ.out (by rw [HEX.out, decide_eq_false (by omega)]; simp)).symm), hB1⟩
          · have hp : (pn : Int) = pcn tn bn bl eb := HOK.out.2 rfl
            have HPP := hide hp
            clear hp
            by_cases d1 : ei < 0
            · go_wp2_with (go_at_call 63; refine (HN.out _).mono ?_; rintro e w2 ⟨rfl, rfl⟩)
              go_ret
              exact ⟨ret_bool (by rw [HR.out]; exact (HZ.out (by rw [HEX.out, decide_eq_false (by omega)]; simp)).symm), hB1⟩
            · by_cases d2 : (pn : Int) ≤ ei
              · go_wp2_with (go_at_call 63; refine (HN.out _).mono ?_; rintro e w2 ⟨rfl, rfl⟩)
                go_ret
                exact ⟨ret_bool (by rw [HR.out]; exact (HZ.out (by rw [HEX.out, ← HPP.out, decide_eq_false (by omega)]; simp)).symm), hB1⟩
              · have HE1 := hide (show ex1 tn bn bl (en, eb, ei) = true by rw [HEX.out, hn, ← HPP.out, decide_eq_true (by omega)]; rfl)
                go_wp2_with (go_at_call 63; refine (HN.out _).mono ?_; rintro e w2 ⟨rfl, rfl⟩)
                clear z1 z2 z3 z4
                go_loopw [7] (fun i wx => ∃ m : Nat, m ≤ k ∧ i = .int .i64 m ∧ Hid (∀ j, j < m → (!((es.getD j zE).1.toList == en.toList)) = true) ∧ Below w.heap.size w wx ∧ Blk wx w.heap.size #[.string nm, .slice ta tn tc, .slice ba bn bc, v3, .int .i64 bss, v5, v6, .slice (some ⟨bb, off, none⟩) n ec] 29 ∧ Blk wx wr.heap.size #[.string en, .int .i64 eb, .int .i64 ei] 58) (fun i _ => k - (intOf i).toNat)
                case atStart => exact ⟨0, Nat.zero_le _, rfl, hide (fun j hj => by omega), hB1, kw1, kE1⟩
                case round =>
                  obtain ⟨m, hm, rfl, HM, hBx, kwx, kEx⟩ := hrel
                  clear hB1 kw1 kE1
                  obtain ⟨q0, q1, q2, q3, q4, q5, q6, q7⟩ := kwx.eight
                  obtain ⟨z1, z2, z3, z4⟩ := kEx.three
                  by_cases hmk : m < k
                  · have hmk' : (m : Int) < (k : Int) := by omega
                    have hmn' : (m : Int) < (n : Int) := by omega
                    obtain ⟨y1, y2, y3⟩ := (h.below hBx).at m (by omega)
                    have HY := hide (rng_bad (fun j => !((es.getD j zE).1.toList == en.toList)) k m hmk)
                    have HV := hide (show (!((es.getD m zE).1.toList == en.toList)) = true → ∀ j, j < m + 1 → (!((es.getD j zE).1.toList == en.toList)) = true from fun h j hj => by
                      by_cases e : j = m
                      · subst e; exact h
                      · exact HM.out j (by omega))
                    generalize (es.getD m zE).1 = sm at *
                    cases hq : (sm.toList == en.toList)
                    · go_wp2_with fail
                      go_quiet (fail)
                      go_wp2
                      go_roundw
                      case rel => exact ⟨m + 1, by omega, by go_num, hide (HV.out (by rw [hq]; rfl)), below_drewN hBx nq, kwx.below (below_drewN (Below.refl _ _) nq), kEx.below (below_drewN (Below.refl _ _) nq)⟩
                      case measure => simp [intOf]; omega
                    · go_wp2_with fail
                      go_quiet (fail)
                      go_wp2
                      go_ret
                      exact ⟨ret_bool (by rw [HR.out]; exact (HZ.out (by rw [HX.out, HY.out (by rw [hq]; rfl)]; simp)).symm), below_drewN hBx nq⟩
                  · have HXX := hide (rng_good (fun j => !((es.getD j zE).1.toList == en.toList)) k (fun j hj => HM.out j (by omega)))
                    go_wp2
                    go_roundw
                    case rel => exact ⟨k + 1, by omega, by go_num, hide (HG.out (by rw [HE1.out, HX.out, HXX.out]; rfl)), hBx, kwx⟩
                    case measure => simp [intOf]; omega
      · have HE := hide (rng_good (fun i => ex1 tn bn bl (es.getD i zE) && exn es i) n (fun j hj => HJ.out j (by omega)))
        go_wp2
        go_ret
        exact ⟨ret_bool (by rw [HR.out]; exact HE.out.symm), hB⟩
end Go.Proofs.Ytngdgogjlpjjpad
