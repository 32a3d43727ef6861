import Derived.Test.YtngdgogjlpjjpacK23
namespace Go.Proofs.Ytngdgogjlpjjpac
open Go.RowKit
set_option linter.unusedVariables false
set_option linter.unusedSimpArgs false
set_option maxRecDepth 100000

abbrev Ex := ByteArray × Int × Int
def zE : Ex := (zS, 0, 0)
/-- A SLICE OF EXPORTS. -/
def ES (w : World) (a : Option Addr) (n cap : Nat) (es : List Ex) : Prop :=
  es.length = n ∧ n ≤ maxLen ∧ (∀ e ∈ es, e.1.size ≤ 1048576) ∧ (n ≠ 0 → ∃ b off, a = some ⟨b, off, none⟩ ∧ ∀ i, i < n → w.cell? ⟨b, off + i * 3, none⟩ = some (.string (es.getD i zE).1) ∧ w.cell? ⟨b, off + i * 3 + 1, none⟩ = some (.int .i64 (es.getD i zE).2.1) ∧ w.cell? ⟨b, off + i * 3 + 2, none⟩ = some (.int .i64 (es.getD i zE).2.2)) ∧ n ≤ cap
theorem ES.below {w w' : World} {a : Option Addr} {n cap : Nat} {es : List Ex} (h : ES w a n cap es) (hb : Below w.heap.size w w') : ES w' a n cap es := by
  obtain ⟨h1, h2, h3, h4, h5⟩ := h
  refine ⟨h1, h2, h3, fun hn => ?_, h5⟩
  obtain ⟨b, off, e, hc⟩ := h4 hn
  have key : ∀ o v, w.cell? ⟨b, o, none⟩ = some v → w'.cell? ⟨b, o, none⟩ = some v := fun o v hv => (hb.cell (World.block_lt_of_cell? w _ hv)).trans hv
  exact ⟨b, off, e, fun i hi => ⟨key _ _ (hc i hi).1, key _ _ (hc i hi).2.1, key _ _ (hc i hi).2.2⟩⟩
theorem ES.addr {w : World} {a : Option Addr} {n cap : Nat} {es : List Ex} (h : ES w a n cap es) (hn : n ≠ 0) : ∃ b off, a = some ⟨b, off, none⟩ := by
  obtain ⟨b, off, e, _⟩ := h.2.2.2.1 hn
  exact ⟨b, off, e⟩
theorem ES.at {w : World} {b off n cap : Nat} {es : List Ex} (h : ES w (some ⟨b, off, none⟩) n cap es) (i : Nat) (hi : i < n) : w.cell? ⟨b, off + i * 3, none⟩ = some (.string (es.getD i zE).1) ∧ w.cell? ⟨b, off + i * 3 + 1, none⟩ = some (.int .i64 (es.getD i zE).2.1) ∧ w.cell? ⟨b, off + i * 3 + 2, none⟩ = some (.int .i64 (es.getD i zE).2.2) := by
  obtain ⟨b', off', e, hc⟩ := h.2.2.2.1 (by omega)
  simp at e
  obtain ⟨rfl, rfl⟩ := e
  exact hc i hi
theorem ES.size {w : World} {a : Option Addr} {n cap : Nat} {es : List Ex} (h : ES w a n cap es) (i : Nat) : (es.getD i zE).1.size ≤ 1048576 := by
  by_cases hi : i < es.length
  · have := h.2.2.1 es[i] (List.getElem_mem hi)
    simpa [List.getD_eq_getElem?_getD, hi] using this
  · rw [List.getD_eq_getElem?_getD, List.getElem?_eq_none (Nat.le_of_not_lt hi)]
    exact (by decide : (zE).1.size ≤ 1048576)
/-- a given name by itself is right -/
def ex1 (tn bn : Nat) (bl : List Bk) (x : Ex) : Bool := nmo x.1 && decide (0 ≤ x.2.2 ∧ x.2.2 < pcn tn bn bl x.2.1)
/-- no one ahead has the name -/
def exn (es : List Ex) (i : Nat) : Bool := (List.range i).all fun k => !((es.getD k zE).1.toList == (es.getD i zE).1.toList)
/-- WHETHER Exports ARE RIGHT. -/
def exo (tn bn : Nat) (bl : List Bk) (n : Nat) (es : List Ex) : Bool := decide (n ≤ 16) && (List.range n).all fun i => ex1 tn bn bl (es.getD i zE) && exn es i

set_option maxHeartbeats 4000000 in
theorem l4ExportsOk_any (nm : ByteArray) (ta : Option Addr) (tn tc : Nat) (ba : Option Addr) (bn bc : Nat) (bl : List Bk) (v3 v5 v6 : Value) (bss : Int) (ea : Option Addr) (n ec : Nat) (es : List Ex) (w : World) (htn : tn ≤ maxLen) (hb : BKS w ba bn bc bl) (h : ES w ea n ec es) :
    Calls Try.prog 71 #[.agg #[.string nm, .slice ta tn tc, .slice ba bn bc, v3, .int .i64 bss, v5, v6, .slice ea n ec]] w fun e w' => e = .returned (.bool (exo tn bn bl n es)) ∧ Below w.heap.size w w' := by
  obtain ⟨W, hW⟩ : ∃ W, W = w.alloc (.cells #[.string nm, .slice ta tn tc, .slice ba bn bc, v3, .int .i64 bss, v5, v6, .slice ea n ec] 56) := ⟨_, rfl⟩
  have hB0 : Below w.heap.size w W := by rw [hW]; exact (Below.refl _ _).alloc (Nat.le_refl _) _
  have kb : Blk W w.heap.size #[.string nm, .slice ta tn tc, .slice ba bn bc, v3, .int .i64 bss, v5, v6, .slice ea n ec] 56 := by rw [hW]; exact Blk.new _ _ _
  obtain ⟨q0, q1, q2, q3, q4, q5, q6, q7⟩ := kb.eight
  obtain ⟨r, hr⟩ : ∃ r, r = exo tn bn bl n es := ⟨_, rfl⟩
  rw [← hr]
  unfold exo at hr
  have hm1 := h.2.1
  unfold maxLen at hm1
  have HW := hide hW
  clear hW
  by_cases c1 : 16 < n
  · have HR := hide (show r = false by rw [hr, decide_eq_false (by omega)]; rfl)
    clear hr
    have c1' : (16 : Int) < (n : Int) := by omega
    go_enter Try.func71, Try.ntmps71
    go_wp2_with (rw [← HW.out])
    go_ret
    exact ⟨ret_bool HR.out.symm, hB0⟩
  · have c1' : ¬ (16 : Int) < (n : Int) := by omega
    have HR := hide (show r = (List.range n).all (fun i => ex1 tn bn bl (es.getD i zE) && exn es i) by rw [hr, decide_eq_true (by omega)]; rfl)
    clear hr
    go_enter Try.func71, Try.ntmps71
    go_wp2_with (rw [← HW.out])
    clear q0 q1 q2 q3 q4 q5 q6 q7
    go_loopw [3] (fun i wr => ∃ k : Nat, k ≤ n ∧ i = .int .i64 k ∧ Hid (∀ j, j < k → (ex1 tn bn bl (es.getD j zE) && exn es j) = true) ∧ Below w.heap.size w wr ∧ Blk wr w.heap.size #[.string nm, .slice ta tn tc, .slice ba bn bc, v3, .int .i64 bss, v5, v6, .slice ea n ec] 56) (fun i _ => n - (intOf i).toNat)
    case atStart => exact ⟨0, Nat.zero_le _, rfl, hide (fun j hj => by omega), hB0, kb⟩
    case round =>
      obtain ⟨k, hk, rfl, HJ, hB, kw⟩ := hrel
      clear kb hB0
      obtain ⟨q0, q1, q2, q3, q4, q5, q6, q7⟩ := kw.eight
      by_cases hlt : k < n
      · have hlt' : (k : Int) < (n : Int) := by omega
        obtain ⟨bb, off, rfl⟩ := h.addr (by omega)
        obtain ⟨y1, y2, y3⟩ := (h.below hB).at k hlt
        have HZ := hide (rng_bad (fun i => ex1 tn bn bl (es.getD i zE) && exn es i) n k hlt)
        have HG := hide (show (ex1 tn bn bl (es.getD k zE) && exn es k) = true → ∀ j, j < k + 1 → (ex1 tn bn bl (es.getD j zE) && exn es j) = true from fun h j hj => by
          by_cases e : j = k
          · subst e; exact h
          · exact HJ.out j (by omega))
        have HN := hide (fun w => l4NameOk_any (es.getD k zE).1 w (h.size k))
        have HX := hide (show exn es k = (List.range k).all (fun j => !((es.getD j zE).1.toList == (es.getD k zE).1.toList)) from rfl)
        generalize es.getD k zE = E at *
        obtain ⟨en, eb, ei⟩ := E
        dsimp only at y1 y2 y3 HN HX
        have lkw := kw.lt
        have hb1 := hb.below (hB.alloc hB.size (.cells #[.string en, .int .i64 eb, .int .i64 ei] 86))
        have HP := hide (fun w h => l4Piece_any nm ta tn tc ba bn bc bl v3 v5 v6 (.slice (some ⟨bb, off, none⟩) n ec) bss eb w htn h)
        have kE := Blk.new wr #[.string en, .int .i64 eb, .int .i64 ei] 86
        have hA : Below wr.heap.size wr (wr.alloc (.cells #[.string en, .int .i64 eb, .int .i64 ei] 86)) := (Below.refl _ _).alloc (Nat.le_refl _) _
        go_wp2_with fail
        refine (HP.out _ hb1).mono ?_
        rintro e w1 ⟨pa, pn, px, ok, rfl, hok, hpn, hpm, hbp⟩
        have kE1 := kE.below hbp
        have kw1 := (kw.below hA).below hbp
        have hB1 := (hB.trans (hA.mono hB.size)).trans (hbp.mono (by have := hB.size; simp; omega))
        clear kE kw hA hbp hb1 HP q0 q1 q2 q3 q4 q5 q6 q7 y1 y2 y3 hB
        unfold maxLen at hpm
        have HOK := hide (And.intro hok hpn)
        clear hok hpn
        obtain ⟨z1, z2, z3, z4⟩ := kE1.three
        have HEX := hide (show ex1 tn bn bl (en, eb, ei) = (nmo en && decide (0 ≤ ei ∧ ei < pcn tn bn bl eb)) from rfl)
        cases hn : nmo en
        · rw [hn] at HN
          go_wp2_with (go_at_call 68; refine (HN.out _).mono ?_; rintro e w2 ⟨rfl, rfl⟩)
          go_ret
          exact ⟨ret_bool (by rw [HR.out]; exact (HZ.out (by rw [HEX.out, hn]; rfl)).symm), hB1⟩
        · rw [hn] at HN
          cases ok
          · have hp : ¬ 0 ≤ pcn tn bn bl eb := by have := HOK.out.1; simpa using this.symm
            go_wp2_with (go_at_call 68; refine (HN.out _).mono ?_; rintro e w2 ⟨rfl, rfl⟩)
            go_ret
            exact ⟨ret_bool (by rw [HR.out]; exact (HZ.out (by rw [HEX.out, decide_eq_false (by omega)]; simp)).symm), hB1⟩
          · have hp : (pn : Int) = pcn tn bn bl eb := HOK.out.2 rfl
            have HPP := hide hp
            clear hp
            by_cases d1 : ei < 0
            · go_wp2_with (go_at_call 68; refine (HN.out _).mono ?_; rintro e w2 ⟨rfl, rfl⟩)
              go_ret
              exact ⟨ret_bool (by rw [HR.out]; exact (HZ.out (by rw [HEX.out, decide_eq_false (by omega)]; simp)).symm), hB1⟩
            · by_cases d2 : (pn : Int) ≤ ei
              · go_wp2_with (go_at_call 68; refine (HN.out _).mono ?_; rintro e w2 ⟨rfl, rfl⟩)
                go_ret
                exact ⟨ret_bool (by rw [HR.out]; exact (HZ.out (by rw [HEX.out, ← HPP.out, decide_eq_false (by omega)]; simp)).symm), hB1⟩
              · have HE1 := hide (show ex1 tn bn bl (en, eb, ei) = true by rw [HEX.out, hn, ← HPP.out, decide_eq_true (by omega)]; rfl)
                go_wp2_with (go_at_call 68; refine (HN.out _).mono ?_; rintro e w2 ⟨rfl, rfl⟩)
                clear z1 z2 z3 z4
                go_loopw [7] (fun i wx => ∃ m : Nat, m ≤ k ∧ i = .int .i64 m ∧ Hid (∀ j, j < m → (!((es.getD j zE).1.toList == en.toList)) = true) ∧ Below w.heap.size w wx ∧ Blk wx w.heap.size #[.string nm, .slice ta tn tc, .slice ba bn bc, v3, .int .i64 bss, v5, v6, .slice (some ⟨bb, off, none⟩) n ec] 56 ∧ Blk wx wr.heap.size #[.string en, .int .i64 eb, .int .i64 ei] 86) (fun i _ => k - (intOf i).toNat)
                case atStart => exact ⟨0, Nat.zero_le _, rfl, hide (fun j hj => by omega), hB1, kw1, kE1⟩
                case round =>
                  obtain ⟨m, hm, rfl, HM, hBx, kwx, kEx⟩ := hrel
                  clear hB1 kw1 kE1
                  obtain ⟨q0, q1, q2, q3, q4, q5, q6, q7⟩ := kwx.eight
                  obtain ⟨z1, z2, z3, z4⟩ := kEx.three
                  by_cases hmk : m < k
                  · have hmk' : (m : Int) < (k : Int) := by omega
                    have hmn' : (m : Int) < (n : Int) := by omega
                    obtain ⟨y1, y2, y3⟩ := (h.below hBx).at m (by omega)
                    have HY := hide (rng_bad (fun j => !((es.getD j zE).1.toList == en.toList)) k m hmk)
                    have HV := hide (show (!((es.getD m zE).1.toList == en.toList)) = true → ∀ j, j < m + 1 → (!((es.getD j zE).1.toList == en.toList)) = true from fun h j hj => by
                      by_cases e : j = m
                      · subst e; exact h
                      · exact HM.out j (by omega))
                    generalize (es.getD m zE).1 = sm at *
                    cases hq : (sm.toList == en.toList)
                    · go_wp2_with fail
                      go_quiet (fail)
                      go_wp2
                      go_roundw
                      case rel => exact ⟨m + 1, by omega, by go_num, hide (HV.out (by rw [hq]; rfl)), below_drewN hBx nq, kwx.below (below_drewN (Below.refl _ _) nq), kEx.below (below_drewN (Below.refl _ _) nq)⟩
                      case measure => simp [intOf]; omega
                    · go_wp2_with fail
                      go_quiet (fail)
                      go_wp2
                      go_ret
                      exact ⟨ret_bool (by rw [HR.out]; exact (HZ.out (by rw [HX.out, HY.out (by rw [hq]; rfl)]; simp)).symm), below_drewN hBx nq⟩
                  · have HXX := hide (rng_good (fun j => !((es.getD j zE).1.toList == en.toList)) k (fun j hj => HM.out j (by omega)))
                    go_wp2
                    go_roundw
                    case rel => exact ⟨k + 1, by omega, by go_num, hide (HG.out (by rw [HE1.out, HX.out, HXX.out]; rfl)), hBx, kwx⟩
                    case measure => simp [intOf]; omega
      · have HE := hide (rng_good (fun i => ex1 tn bn bl (es.getD i zE) && exn es i) n (fun j hj => HJ.out j (by omega)))
        go_wp2
        go_ret
        exact ⟨ret_bool (by rw [HR.out]; exact HE.out.symm), hB⟩
end Go.Proofs.Ytngdgogjlpjjpac
