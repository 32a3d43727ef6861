import Derived.Test.YtngdgogjlpjjpacK39
import Derived.Test.YtngdgogjlpjjpacK23
import Derived.Test.YtngdgogjlpjjpacK17
import Derived.Deep.RegionWith
namespace Go.Proofs.Ytngdgogjlpjjpac
open Go.RowKit Go.Maps
set_option linter.unusedVariables false
set_option linter.unusedSimpArgs false
set_option maxRecDepth 100000

theorem exn_size (es : List Ex) (n : Nat) : (List.range n).all (exn es) = decide (size (fd (exNm es) n) = n) := by
  rw [fd_size]
  congr 1
  funext i
  unfold exn exNm
  congr 1
  funext j
  rw [ByteArray.toList_eq, ByteArray.toList_eq]
theorem exo_last (tn bn : Nat) (bl : List Bk) (n : Nat) (es : List Ex) (h : ∀ j, j < n → ex1 tn bn bl (es.getD j zE) = true) : (List.range n).all (fun i => ex1 tn bn bl (es.getD i zE) && exn es i) = decide (size (fd (exNm es) n) = n) := by
  rw [← exn_size, Bool.eq_iff_iff, List.all_eq_true, List.all_eq_true]
  constructor
  · intro H i hi
    have := H i hi
    simp only [Bool.and_eq_true] at this
    exact this.2
  · intro H i hi
    rw [h i (by simpa using hi), H i hi]
    rfl

set_option maxHeartbeats 4000000 in
theorem exportsOk_any (nm : ByteArray) (ta : Option Addr) (tn tc : Nat) (ba : Option Addr) (bn bc : Nat) (bl : List Bk) (v3 v5 v6 : Value) (bss : Int) (ea : Option Addr) (n ec : Nat) (es : List Ex) (w : World) (htn : tn ≤ maxLen) (hb : BKS w ba bn bc bl) (h : ES w ea n ec es) :
    Calls Try.prog 81 #[.agg #[.string nm, .slice ta tn tc, .slice ba bn bc, v3, .int .i64 bss, v5, v6, .slice ea n ec]] w fun e w' => e = .returned (.bool (exo tn bn bl n es)) ∧ Below w.heap.size w w' := by
  obtain ⟨W, hW⟩ : ∃ W, W = w.alloc (.cells #[.string nm, .slice ta tn tc, .slice ba bn bc, v3, .int .i64 bss, v5, v6, .slice ea n ec] 56) := ⟨_, rfl⟩
  have hB0 : Below w.heap.size w W := by rw [hW]; exact (Below.refl _ _).alloc (Nat.le_refl _) _
  have kb : Blk W w.heap.size #[.string nm, .slice ta tn tc, .slice ba bn bc, v3, .int .i64 bss, v5, v6, .slice ea n ec] 56 := by rw [hW]; exact Blk.new _ _ _
  obtain ⟨q0, q1, q2, q3, q4, q5, q6, q7⟩ := kb.eight
  obtain ⟨r, hr⟩ : ∃ r, r = exo tn bn bl n es := ⟨_, rfl⟩
  rw [← hr]
  unfold exo at hr
  have hm1 := h.2.1
  unfold maxLen at hm1
  have HW := hide hW
  clear hW
  by_cases c1 : 16 < n
  · have HR := hide (show r = false by rw [hr, decide_eq_false (by omega)]; rfl)
    clear hr
    have c1' : (16 : Int) < (n : Int) := by omega
    go_enter Try.func81, Try.ntmps81
    go_wp2_with (rw [← HW.out])
    go_ret
    exact ⟨ret_bool HR.out.symm, hB0⟩
  · have c1' : ¬ (16 : Int) < (n : Int) := by omega
    have HR := hide (show r = (List.range n).all (fun i => ex1 tn bn bl (es.getD i zE) && exn es i) by rw [hr, decide_eq_true (by omega)]; rfl)
    clear hr
    go_enter Try.func81, Try.ntmps81
    go_wp2_with (rw [← HW.out])
    clear q0 q1 q2 q3 q4 q5 q6 q7
    go_loopw [14] (fun i wr => ∃ k : Nat, k ≤ n ∧ i = .int .i64 k ∧ Hid (∀ j, j < k → ex1 tn bn bl (es.getD j zE) = true) ∧ Below w.heap.size w wr ∧ Blk wr w.heap.size #[.string nm, .slice ta tn tc, .slice ba bn bc, v3, .int .i64 bss, v5, v6, .slice ea n ec] 56) (fun i _ => n - (intOf i).toNat)
    case atStart => exact ⟨0, Nat.zero_le _, rfl, hide (fun j hj => by omega), hB0, kb⟩
    case round =>
      obtain ⟨k, hk, rfl, HJ, hB, kw⟩ := hrel
      clear kb hB0
      obtain ⟨q0, q1, q2, q3, q4, q5, q6, q7⟩ := kw.eight
      by_cases hlt : k < n
      · have hlt' : (k : Int) < (n : Int) := by omega
        obtain ⟨bb, off, rfl⟩ := h.addr (by omega)
        obtain ⟨y1, y2, y3⟩ := (h.below hB).at k hlt
        have HZ := hide (rng_bad (fun i => ex1 tn bn bl (es.getD i zE) && exn es i) n k hlt)
        have HG := hide (show ex1 tn bn bl (es.getD k zE) = true → ∀ j, j < k + 1 → ex1 tn bn bl (es.getD j zE) = true from fun h j hj => by
          by_cases e : j = k
          · subst e; exact h
          · exact HJ.out j (by omega))
        have HN := hide (fun w => isName_any (es.getD k zE).1 w (h.size k))
        generalize es.getD k zE = E at *
        obtain ⟨en, eb, ei⟩ := E
        dsimp only at y1 y2 y3 HN
        have lkw := kw.lt
        have hb1 := hb.below (hB.alloc hB.size (.cells #[.string en, .int .i64 eb, .int .i64 ei] 86))
        have HP := hide (fun w h => pieceOf_any nm ta tn tc ba bn bc bl v3 v5 v6 (.slice (some ⟨bb, off, none⟩) n ec) bss eb w htn h)
        have kE := Blk.new wr #[.string en, .int .i64 eb, .int .i64 ei] 86
        have hA : Below wr.heap.size wr (wr.alloc (.cells #[.string en, .int .i64 eb, .int .i64 ei] 86)) := (Below.refl _ _).alloc (Nat.le_refl _) _
        go_wp2_with fail
        refine (HP.out _ hb1).mono ?_
        rintro e w1 ⟨pa, pn, px, ok, rfl, hok, hpn, hpm, hbp⟩
        have kE1 := kE.below hbp
        have kw1 := (kw.below hA).below hbp
        have hB1 := (hB.trans (hA.mono hB.size)).trans (hbp.mono (by have := hB.size; simp; omega))
        clear kE kw hA hbp hb1 HP q0 q1 q2 q3 q4 q5 q6 q7 y1 y2 y3 hB
        unfold maxLen at hpm
        have HOK := hide (And.intro hok hpn)
        clear hok hpn
        obtain ⟨z1, z2, z3, z4⟩ := kE1.three
        have HEX := hide (show ex1 tn bn bl (en, eb, ei) = (nmo en && decide (0 ≤ ei ∧ ei < pcn tn bn bl eb)) from rfl)
        have HU := hide (fun w => isUpTo_any ei ((pn : Int) - 1) w)
        cases hn : nmo en
        · rw [hn] at HN
          go_wp2_with (go_at_call 76; refine (HN.out _).mono ?_; rintro e w2 ⟨rfl, rfl⟩)
          go_ret
          exact ⟨ret_bool (by rw [HR.out]; exact (HZ.out (by rw [HEX.out, hn]; rfl)).symm), hB1⟩
        · rw [hn] at HN
          cases ok
          · have hp : ¬ 0 ≤ pcn tn bn bl eb := by have := HOK.out.1; simpa using this.symm
            go_wp2_with (go_at_call 76; refine (HN.out _).mono ?_; rintro e w2 ⟨rfl, rfl⟩)
            go_ret
            exact ⟨ret_bool (by rw [HR.out]; exact (HZ.out (by rw [HEX.out, decide_eq_false (by omega)]; simp)).symm), hB1⟩
          · have hp : (pn : Int) = pcn tn bn bl eb := HOK.out.2 rfl
            have HPP := hide hp
            clear hp
            by_cases d1 : 0 ≤ ei ∧ ei ≤ (pn : Int) - 1
            · have HE1 := hide (show ex1 tn bn bl (en, eb, ei) = true by rw [HEX.out, hn, ← HPP.out, decide_eq_true (by omega)]; rfl)
              rw [decide_eq_true d1] at HU
              go_wp2_with (first | (go_at_call 76; refine (HN.out _).mono ?_; rintro e w2 ⟨rfl, rfl⟩) | (go_at_call 78; refine (HU.out _).mono ?_; rintro e w2 ⟨rfl, rfl⟩))
              go_roundw
              case rel => exact ⟨k + 1, by omega, by go_num, hide (HG.out HE1.out), hB1, kw1⟩
              case measure => simp [intOf]; omega
            · rw [decide_eq_false d1] at HU
              have HE1 := hide (show ex1 tn bn bl (en, eb, ei) = false by rw [HEX.out, hn, ← HPP.out, decide_eq_false (by omega)]; rfl)
              go_wp2_with (first | (go_at_call 76; refine (HN.out _).mono ?_; rintro e w2 ⟨rfl, rfl⟩) | (go_at_call 78; refine (HU.out _).mono ?_; rintro e w2 ⟨rfl, rfl⟩))
              go_ret
              exact ⟨ret_bool (by rw [HR.out]; exact (HZ.out (by rw [HE1.out]; rfl)).symm), hB1⟩
      · have e : k = n := by omega
        subst e
        have HE := hide (exo_last tn bn bl k es (fun j hj => HJ.out j hj))
        have h' := h.below hB
        have HF := hide (fun w h => firstOfE_any ea k ec es w h (by omega))
        obtain ⟨S, hS⟩ : ∃ S, S = size (fd (exNm es) k) := ⟨_, rfl⟩
        have HS := hide hS
        clear hS
        go_wp2_with fail
        go_region_with (first
            | (go_at_call 61; refine (HF.out _ (by exact h')).mono ?_; rintro e w1 ⟨rfl, hown, hb1⟩; have hl : ∀ ty, (Builtin.len_ #[91] ty #[.map (some wr.heap.size)]).run Try.prog w1 = .ok (.int .i64 (S : Int)) w1 := (by intro ty; rw [HS.out]; exact hown.len Try.underlying91 ty); replace hb1 := undrew hb1; obtain ⟨q0, q1, q2, q3, q4, q5, q6, q7⟩ := (kw.below hb1).eight; clear hown))
        all_goals
          have HB1 := hide (hB.trans (hb1.mono hB.size))
          go_wp2
          go_ret
          exact ⟨ret_bool (by rw [HR.out, HE.out, ← HS.out]; first | rfl | (rw [Bool.eq_iff_iff]; simp; omega)), HB1.out⟩
end Go.Proofs.Ytngdgogjlpjjpac
