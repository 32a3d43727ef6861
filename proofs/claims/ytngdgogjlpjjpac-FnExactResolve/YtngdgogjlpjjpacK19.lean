import Derived.Test.YtngdgogjlpjjpacK18
namespace Go.Proofs.Ytngdgogjlpjjpac
open Go.RowKit
set_option linter.unusedVariables false
set_option linter.unusedSimpArgs false
set_option maxRecDepth 100000

/-- a list of words as a bank has it: its slice and what it reads as -/
abbrev Bk := Option Addr × Nat × Nat × List Int
def zB : Bk := (none, 0, 0, [])
/-- A SLICE OF LISTS OF NUMBERS. -/
def BKS (w : World) (a : Option Addr) (n cap : Nat) (bl : List Bk) : Prop :=
  bl.length = n ∧ n ≤ maxLen ∧ (n ≠ 0 → ∃ b off, a = some ⟨b, off, none⟩ ∧ ∀ i, i < n → w.cell? ⟨b, off + i, none⟩ = some (.slice (bl.getD i zB).1 (bl.getD i zB).2.1 (bl.getD i zB).2.2.1)) ∧ (∀ i, i < n → IS w (bl.getD i zB).1 (bl.getD i zB).2.1 (bl.getD i zB).2.2.1 (bl.getD i zB).2.2.2) ∧ n ≤ cap
theorem BKS.below {w w' : World} {a : Option Addr} {n cap : Nat} {bl : List Bk} (h : BKS w a n cap bl) (hb : Below w.heap.size w w') : BKS w' a n cap bl := by
  obtain ⟨h1, h2, h3, h4, h5⟩ := h
  refine ⟨h1, h2, fun hn => ?_, fun i hi => (h4 i hi).below hb, h5⟩
  obtain ⟨b, off, e, hc⟩ := h3 hn
  exact ⟨b, off, e, fun i hi => (hb.cell (World.block_lt_of_cell? w _ (hc i hi))).trans (hc i hi)⟩
theorem BKS.addr {w : World} {a : Option Addr} {n cap : Nat} {bl : List Bk} (h : BKS w a n cap bl) (hn : n ≠ 0) : ∃ b off, a = some ⟨b, off, none⟩ := by
  obtain ⟨b, off, e, _⟩ := h.2.2.1 hn
  exact ⟨b, off, e⟩
theorem BKS.at {w : World} {b off n cap : Nat} {bl : List Bk} (h : BKS w (some ⟨b, off, none⟩) n cap bl) (i : Nat) (hi : i < n) : w.cell? ⟨b, off + i, none⟩ = some (.slice (bl.getD i zB).1 (bl.getD i zB).2.1 (bl.getD i zB).2.2.1) := by
  obtain ⟨b', off', e, hc⟩ := h.2.2.1 (by omega)
  simp at e
  obtain ⟨rfl, rfl⟩ := e
  exact hc i hi

def bko (b : Bk) : Bool := decide (1 ≤ b.2.1 ∧ b.2.1 ≤ 64) && wds b.2.2.2
/-- WHETHER Text AND Banks ARE RIGHT. -/
def cdo (tn : Nat) (tz : List Int) (bn : Nat) (bl : List Bk) : Bool := decide (tn ≤ 200 ∧ bn ≤ 4) && (wds tz && bl.all bko)
theorem all_bad (bl : List Bk) (k : Nat) (hk : k < bl.length) (h : bko (bl.getD k zB) = false) : bl.all bko = false := by
  rw [List.all_eq_false]
  exact ⟨bl[k], List.getElem_mem _, by rw [show bl.getD k zB = bl[k] by simp [List.getD_eq_getElem?_getD, hk]] at h; simp [h]⟩
theorem all_good (bl : List Bk) (h : ∀ j, j < bl.length → bko (bl.getD j zB) = true) : bl.all bko = true := by
  rw [List.all_eq_true]
  intro z hz
  obtain ⟨i, hi, rfl⟩ := List.getElem_of_mem hz
  have := h i hi
  rwa [show bl.getD i zB = bl[i] by simp [List.getD_eq_getElem?_getD, hi]] at this

theorem Blk.eight {w : World} {g : Nat} {a b c d e f x y : Value} {t : TypeId} (h : Blk w g #[a, b, c, d, e, f, x, y] t) :
    w.cell? ⟨g, 0, none⟩ = some a ∧ w.cell? ⟨g, 1, none⟩ = some b ∧ w.cell? ⟨g, 2, none⟩ = some c ∧ w.cell? ⟨g, 3, none⟩ = some d ∧ w.cell? ⟨g, 4, none⟩ = some e ∧ w.cell? ⟨g, 5, none⟩ = some f ∧ w.cell? ⟨g, 6, none⟩ = some x ∧ w.cell? ⟨g, 7, none⟩ = some y :=
  ⟨by rw [h.cell]; rfl, by rw [h.cell]; rfl, by rw [h.cell]; rfl, by rw [h.cell]; rfl, by rw [h.cell]; rfl, by rw [h.cell]; rfl, by rw [h.cell]; rfl, by rw [h.cell]; rfl⟩

set_option maxHeartbeats 2000000 in
theorem l4CodeOk_any (nm : ByteArray) (ta : Option Addr) (tn tc : Nat) (tz : List Int) (ba : Option Addr) (bn bc : Nat) (bl : List Bk) (v3 v5 v6 v7 : Value) (bss : Int) (w : World) (ht : IS w ta tn tc tz) (hb : BKS w ba bn bc bl) :
    Calls Try.prog 69 #[.agg #[.string nm, .slice ta tn tc, .slice ba bn bc, v3, .int .i64 bss, v5, v6, v7]] w fun e w' => e = .returned (.bool (cdo tn tz bn bl)) ∧ Below w.heap.size w w' := by
  obtain ⟨W, hW⟩ : ∃ W, W = w.alloc (.cells #[.string nm, .slice ta tn tc, .slice ba bn bc, v3, .int .i64 bss, v5, v6, v7] 56) := ⟨_, rfl⟩
  have hB0 : Below w.heap.size w W := by rw [hW]; exact (Below.refl _ _).alloc (Nat.le_refl _) _
  have kb : Blk W w.heap.size #[.string nm, .slice ta tn tc, .slice ba bn bc, v3, .int .i64 bss, v5, v6, v7] 56 := by rw [hW]; exact Blk.new _ _ _
  obtain ⟨q0, q1, q2, q3, q4, q5, q6, q7⟩ := kb.eight
  have HT := hide (fun w h => l4Words_any ta tn tc tz w h)
  obtain ⟨r, hr⟩ : ∃ r, r = cdo tn tz bn bl := ⟨_, rfl⟩
  rw [← hr]
  unfold cdo at hr
  have ht0 := ht.below hB0
  have hb0 := hb.below hB0
  have hm1 := ht.2.1
  have hm2 := hb.2.1
  unfold maxLen at hm1 hm2
  have HW := hide hW
  clear hW
  by_cases c1 : 200 < tn
  · have HR := hide (show r = false by rw [hr, decide_eq_false (by omega)]; rfl)
    clear hr
    have c1' : (200 : Int) < (tn : Int) := by omega
    go_enter Try.func69, Try.ntmps69
    go_wp2_with (rw [← HW.out])
    go_ret
    exact ⟨ret_bool HR.out.symm, hB0⟩
  · have c1' : ¬ (200 : Int) < (tn : Int) := by omega
    by_cases c2 : 4 < bn
    · have HR := hide (show r = false by rw [hr, decide_eq_false (by omega)]; rfl)
      clear hr
      have c2' : (4 : Int) < (bn : Int) := by omega
      go_enter Try.func69, Try.ntmps69
      go_wp2_with (rw [← HW.out])
      go_ret
      exact ⟨ret_bool HR.out.symm, hB0⟩
    · have c2' : ¬ (4 : Int) < (bn : Int) := by omega
      cases hz : wds tz
      · rw [hz] at HT
        have HR := hide (show r = false by rw [hr, hz]; simp)
        clear hr
        go_enter Try.func69, Try.ntmps69
        go_wp2_with (first | (rw [← HW.out]) | (go_at_call 115; refine (HT.out _ ht0).mono ?_; rintro e w1 ⟨rfl, rfl⟩))
        go_ret
        exact ⟨ret_bool HR.out.symm, hB0⟩
      · rw [hz] at HT
        have hr' : r = bl.all bko := by rw [hr, hz, decide_eq_true (by omega)]; simp
        have HR := hide hr'
        clear hr hr'
        have hl := hb.1
        go_enter Try.func69, Try.ntmps69
        go_wp2_with (first | (rw [← HW.out]) | (go_at_call 115; refine (HT.out _ ht0).mono ?_; rintro e w1 ⟨rfl, rfl⟩))
        go_loop [3] (fun i => ∃ k : Nat, k ≤ bn ∧ i = .int .i64 k ∧ Hid (∀ j, j < k → bko (bl.getD j zB) = true)) (fun i => bn - (intOf i).toNat)
        case atStart => exact ⟨0, Nat.zero_le _, rfl, hide (fun j hj => by omega)⟩
        case round =>
          obtain ⟨k, hk, rfl, HJ⟩ := hrel
          by_cases hlt : k < bn
          · have hlt' : (k : Int) < (bn : Int) := by omega
            obtain ⟨bb, off, rfl⟩ := hb0.addr (by omega)
            have hck := hb0.at k hlt
            have hik := hb0.2.2.2.1 k hlt
            have HZ := hide (all_bad bl k (by omega))
            have HG := hide (show bko (bl.getD k zB) = true → ∀ j, j < k + 1 → bko (bl.getD j zB) = true from fun h j hj => by
              by_cases e : j = k
              · subst e; exact h
              · exact HJ.out j (by omega))
            generalize bl.getD k zB = B at *
            obtain ⟨xa, xn, xc, xz⟩ := B
            dsimp only at hck hik
            have hxm := hik.2.1
            unfold maxLen at hxm
            have HX := hide (fun w h => l4Words_any xa xn xc xz w h)
            by_cases d1 : xn < 1
            · have d1' : (xn : Int) < 1 := by omega
              go_wp2
              go_ret
              exact ⟨ret_bool (by rw [HR.out]; exact (HZ.out (by unfold bko; dsimp only; rw [decide_eq_false (by omega)]; rfl)).symm), hB0⟩
            · have d1' : ¬ (xn : Int) < 1 := by omega
              by_cases d2 : 64 < xn
              · have d2' : (64 : Int) < (xn : Int) := by omega
                go_wp2
                go_ret
                exact ⟨ret_bool (by rw [HR.out]; exact (HZ.out (by unfold bko; dsimp only; rw [decide_eq_false (by omega)]; rfl)).symm), hB0⟩
              · have d2' : ¬ (64 : Int) < (xn : Int) := by omega
                cases hx : wds xz
                · rw [hx] at HX
                  go_wp2_with (go_at_call 115; refine (HX.out _ hik).mono ?_; rintro e w1 ⟨rfl, rfl⟩)
                  go_ret
                  exact ⟨ret_bool (by rw [HR.out]; exact (HZ.out (by unfold bko; dsimp only; rw [hx]; simp)).symm), hB0⟩
                · rw [hx] at HX
                  go_wp2_with (go_at_call 115; refine (HX.out _ hik).mono ?_; rintro e w1 ⟨rfl, rfl⟩)
                  go_round
                  case rel => exact ⟨k + 1, by omega, by go_num, hide (HG.out (by unfold bko; dsimp only; rw [hx, decide_eq_true (by omega)]; rfl))⟩
                  case measure => simp [intOf]; omega
          · have HE := hide (all_good bl (fun j hj => HJ.out j (by omega)))
            go_wp2
            go_ret
            exact ⟨ret_bool (by rw [HR.out]; exact HE.out.symm), hB0⟩

set_option maxHeartbeats 2000000 in
theorem codeOk_any (nm : ByteArray) (ta : Option Addr) (tn tc : Nat) (tz : List Int) (ba : Option Addr) (bn bc : Nat) (bl : List Bk) (v3 v5 v6 v7 : Value) (bss : Int) (w : World) (ht : IS w ta tn tc tz) (hb : BKS w ba bn bc bl) :
    Calls Try.prog 77 #[.agg #[.string nm, .slice ta tn tc, .slice ba bn bc, v3, .int .i64 bss, v5, v6, v7]] w fun e w' => e = .returned (.bool (cdo tn tz bn bl)) ∧ Below w.heap.size w w' := by
  obtain ⟨W, hW⟩ : ∃ W, W = w.alloc (.cells #[.string nm, .slice ta tn tc, .slice ba bn bc, v3, .int .i64 bss, v5, v6, v7] 56) := ⟨_, rfl⟩
  have hB0 : Below w.heap.size w W := by rw [hW]; exact (Below.refl _ _).alloc (Nat.le_refl _) _
  have kb : Blk W w.heap.size #[.string nm, .slice ta tn tc, .slice ba bn bc, v3, .int .i64 bss, v5, v6, v7] 56 := by rw [hW]; exact Blk.new _ _ _
  obtain ⟨q0, q1, q2, q3, q4, q5, q6, q7⟩ := kb.eight
  have HT := hide (fun w h => areWords_any ta tn tc tz w h)
  obtain ⟨r, hr⟩ : ∃ r, r = cdo tn tz bn bl := ⟨_, rfl⟩
  rw [← hr]
  unfold cdo at hr
  have ht0 := ht.below hB0
  have hb0 := hb.below hB0
  have hm1 := ht.2.1
  have hm2 := hb.2.1
  unfold maxLen at hm1 hm2
  have HW := hide hW
  clear hW
  by_cases c1 : 200 < tn
  · have HR := hide (show r = false by rw [hr, decide_eq_false (by omega)]; rfl)
    clear hr
    have c1' : (200 : Int) < (tn : Int) := by omega
    go_enter Try.func77, Try.ntmps77
    go_wp2_with (rw [← HW.out])
    go_ret
    exact ⟨ret_bool HR.out.symm, hB0⟩
  · have c1' : ¬ (200 : Int) < (tn : Int) := by omega
    by_cases c2 : 4 < bn
    · have HR := hide (show r = false by rw [hr, decide_eq_false (by omega)]; rfl)
      clear hr
      have c2' : (4 : Int) < (bn : Int) := by omega
      go_enter Try.func77, Try.ntmps77
      go_wp2_with (rw [← HW.out])
      go_ret
      exact ⟨ret_bool HR.out.symm, hB0⟩
    · have c2' : ¬ (4 : Int) < (bn : Int) := by omega
      cases hz : wds tz
      · rw [hz] at HT
        have HR := hide (show r = false by rw [hr, hz]; simp)
        clear hr
        go_enter Try.func77, Try.ntmps77
        go_wp2_with (first | (rw [← HW.out]) | (go_at_call 118; refine (HT.out _ ht0).mono ?_; rintro e w1 ⟨rfl, rfl⟩))
        go_ret
        exact ⟨ret_bool HR.out.symm, hB0⟩
      · rw [hz] at HT
        have hr' : r = bl.all bko := by rw [hr, hz, decide_eq_true (by omega)]; simp
        have HR := hide hr'
        clear hr hr'
        have hl := hb.1
        go_enter Try.func77, Try.ntmps77
        go_wp2_with (first | (rw [← HW.out]) | (go_at_call 118; refine (HT.out _ ht0).mono ?_; rintro e w1 ⟨rfl, rfl⟩))
        go_loop [24] (fun i => ∃ k : Nat, k ≤ bn ∧ i = .int .i64 k ∧ Hid (∀ j, j < k → bko (bl.getD j zB) = true)) (fun i => bn - (intOf i).toNat)
        case atStart => exact ⟨0, Nat.zero_le _, rfl, hide (fun j hj => by omega)⟩
        case round =>
          obtain ⟨k, hk, rfl, HJ⟩ := hrel
          by_cases hlt : k < bn
          · have hlt' : (k : Int) < (bn : Int) := by omega
            obtain ⟨bb, off, rfl⟩ := hb0.addr (by omega)
            have hck := hb0.at k hlt
            have hik := hb0.2.2.2.1 k hlt
            have HZ := hide (all_bad bl k (by omega))
            have HG := hide (show bko (bl.getD k zB) = true → ∀ j, j < k + 1 → bko (bl.getD j zB) = true from fun h j hj => by
              by_cases e : j = k
              · subst e; exact h
              · exact HJ.out j (by omega))
            generalize bl.getD k zB = B at *
            obtain ⟨xa, xn, xc, xz⟩ := B
            dsimp only at hck hik
            have hxm := hik.2.1
            unfold maxLen at hxm
            have HX := hide (fun w h => areWords_any xa xn xc xz w h)
            by_cases d1 : xn < 1
            · have d1' : (xn : Int) < 1 := by omega
              go_wp2
              go_ret
              exact ⟨ret_bool (by rw [HR.out]; exact (HZ.out (by unfold bko; dsimp only; rw [decide_eq_false (by omega)]; rfl)).symm), hB0⟩
            · have d1' : ¬ (xn : Int) < 1 := by omega
              by_cases d2 : 64 < xn
              · have d2' : (64 : Int) < (xn : Int) := by omega
                go_wp2
                go_ret
                exact ⟨ret_bool (by rw [HR.out]; exact (HZ.out (by unfold bko; dsimp only; rw [decide_eq_false (by omega)]; rfl)).symm), hB0⟩
              · have d2' : ¬ (64 : Int) < (xn : Int) := by omega
                cases hx : wds xz
                · rw [hx] at HX
                  go_wp2_with (go_at_call 118; refine (HX.out _ hik).mono ?_; rintro e w1 ⟨rfl, rfl⟩)
                  go_ret
                  exact ⟨ret_bool (by rw [HR.out]; exact (HZ.out (by unfold bko; dsimp only; rw [hx]; simp)).symm), hB0⟩
                · rw [hx] at HX
                  go_wp2_with (go_at_call 118; refine (HX.out _ hik).mono ?_; rintro e w1 ⟨rfl, rfl⟩)
                  go_round
                  case rel => exact ⟨k + 1, by omega, by go_num, hide (HG.out (by unfold bko; dsimp only; rw [hx, decide_eq_true (by omega)]; rfl))⟩
                  case measure => simp [intOf]; omega
          · have HE := hide (all_good bl (fun j hj => HJ.out j (by omega)))
            go_wp2
            go_ret
            exact ⟨ret_bool (by rw [HR.out]; exact HE.out.symm), hB0⟩
end Go.Proofs.Ytngdgogjlpjjpac
