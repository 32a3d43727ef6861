import Derived.Test.YthnelonbpbhhbabSt2
import Derived.Test.YthnelonbpbhhbabRw
import Derived.Test.YthnelonbpbhhbabDr1
namespace Go.Proofs.Ythnelonbpbhhbab
open Go.RowKit
set_option linter.unusedVariables false
set_option maxRecDepth 100000

/-- the region with Read set -/
def rdG (g : Rg) : Rg := (g.1, g.2.1, g.2.2.1, true, g.2.2.2.2.1, g.2.2.2.2.2)
def rdL (L : List Rg) (i : Nat) : List Rg := (List.range L.length).map fun j => if j < i then rdG (L.getD j z6) else L.getD j z6
theorem rdL_zero (L : List Rg) : rdL L 0 = L := by
  apply List.ext_getElem
  · simp [rdL]
  · intro i h1 h2; simp [rdL, h2]
theorem rdL_len (L : List Rg) (i : Nat) : (rdL L i).length = L.length := by simp [rdL]
theorem rdL_getD (L : List Rg) (i j : Nat) (hj : j < L.length) : (rdL L i).getD j z6 = if j < i then rdG (L.getD j z6) else L.getD j z6 := by
  simp [rdL, List.getD_eq_getElem?_getD, hj]
theorem rdL_set (L : List Rg) (m : Nat) (h : m < L.length) : (rdL L m).set m (rdG (L.getD m z6)) = rdL L (m + 1) := by
  apply List.ext_getElem
  · simp [rdL]
  · intro i h1 h2
    simp only [rdL, List.getElem_set, List.getElem_map, List.getElem_range]
    by_cases hik : m = i
    · subst hik; simp
    · by_cases h3 : i < m
      · simp [hik, h3, show i < m + 1 by omega]
      · simp [hik, h3, show ¬ i < m + 1 by omega]
theorem RowW.below {w w' : World} {g : Nat} {rs : List Rg} (h : RowW w g rs) (hb : Below w.heap.size w w') : RowW w' g rs := by
  obtain ⟨⟨cur, hc⟩, hr⟩ := h
  exact ⟨⟨cur, hc.below hb⟩, fun i hi => (hr i hi).below hb⟩
theorem roww_read {w : World} {g : Nat} {rs : List Rg} (h : RowW w g rs) (i : Nat) (hi : i < rs.length) : RowW (w.setCell ⟨g, i * 6 + 3, none⟩ (.bool true)) g (rs.set i (rdG (rs.getD i z6))) := by
  obtain ⟨⟨cur, hc⟩, hr⟩ := h
  refine ⟨⟨_, hc.set (i * 6 + 3) _⟩, fun j hj => ?_⟩
  rw [List.length_set] at hj
  obtain ⟨h1, h2, h3, h4, h5, h6⟩ := hr j hj
  by_cases e : i = j
  · subst e
    have : (rs.set i (rdG (rs.getD i z6))).getD i z6 = rdG (rs.getD i z6) := by simp [List.getD_eq_getElem?_getD, hi]
    rw [this]
    refine ⟨?_, ?_, ?_, ?_, ?_, ?_⟩
    · rw [cell_other (by omega)]; exact h1
    · rw [cell_other (by omega)]; exact h2
    · rw [cell_other (by omega)]; exact h3
    · exact cell_same h4
    · rw [cell_other (by omega)]; exact h5
    · rw [cell_other (by omega)]; exact h6
  · have : (rs.set i (rdG (rs.getD i z6))).getD j z6 = rs.getD j z6 := by simp [List.getD_eq_getElem?_getD, e]
    rw [this]
    refine ⟨?_, ?_, ?_, ?_, ?_, ?_⟩
    · rw [cell_other (by omega)]; exact h1
    · rw [cell_other (by omega)]; exact h2
    · rw [cell_other (by omega)]; exact h3
    · rw [cell_other (by omega)]; exact h4
    · rw [cell_other (by omega)]; exact h5
    · rw [cell_other (by omega)]; exact h6

theorem chain_ok : ∀ (L : List Rg) (a e : Int), Chain L a e → ∀ g ∈ L, gok g = true ∧ g.2.2.2 = (false, false, false)
  | [], a, e, h, g, hg => by cases hg
  | y :: r, a, e, h, g, hg => by
    obtain ⟨c, hc, hr⟩ := h
    rcases List.mem_cons.1 hg with rfl | hg
    · exact ⟨hc.ok, hc.bits⟩
    · exact chain_ok r _ _ hr g hg
theorem mem_getD {L : List Rg} {j : Nat} (h : j < L.length) : L.getD j z6 ∈ L := by
  rw [List.getD_eq_getElem?_getD, List.getElem?_eq_getElem h]
  exact List.getElem_mem h
theorem getD_mem {L : List Rg} {g : Rg} (h : g ∈ L) : ∃ j, j < L.length ∧ L.getD j z6 = g := by
  obtain ⟨j, hj, e⟩ := List.getElem_of_mem h
  exact ⟨j, hj, by rw [List.getD_eq_getElem?_getD, List.getElem?_eq_getElem hj]; exact e⟩
theorem glets_rd1 (g : Rg) : glets (rdG g) 1 = true := rfl
theorem oneTo_read (L : List Rg) (x : Int) : ∀ n, n ≤ L.length → (oneTo (rdL L L.length) x 1 n = true ↔ ∃ j, j < n ∧ ghas (L.getD j z6) x = true)
  | 0, _ => by simp [oneTo]
  | n + 1, hn => by
    have ih := oneTo_read L x n (by omega)
    unfold oneTo
    rw [rdL_getD L L.length n (by omega), if_pos (show n < L.length by omega)]
    have e : ghas (rdG (L.getD n z6)) x = ghas (L.getD n z6) x := rfl
    rw [e]
    by_cases hh : ghas (L.getD n z6) x = true
    · rw [if_pos hh]
      constructor
      · intro _; exact ⟨n, by omega, hh⟩
      · intro _; rfl
    · rw [if_neg hh, ih]
      constructor
      · rintro ⟨j, hj, h⟩; exact ⟨j, by omega, h⟩
      · rintro ⟨j, hj, h⟩
        by_cases e : j = n
        · subst e; exact absurd h hh
        · exact ⟨j, by omega, h⟩
theorem oneTo_write (L : List Rg) (x : Int) (hf : ∀ g ∈ L, g.2.2.2 = (false, false, false)) : ∀ n, n ≤ L.length → oneTo (rdL L L.length) x 2 n = false
  | 0, _ => rfl
  | n + 1, hn => by
    unfold oneTo
    rw [rdL_getD L L.length n (by omega), if_pos (show n < L.length by omega), oneTo_write L x hf n (by omega)]
    have h1 := hf _ (mem_getD (show n < L.length by omega))
    have : glets (rdG (L.getD n z6)) 2 = false := by
      generalize L.getD n z6 = g at *
      obtain ⟨g1, g2, g3, g4, g5, g6⟩ := g
      simp at h1
      obtain ⟨_, rfl, _⟩ := h1
      rfl
    rw [this]
    simp
theorem w64 {a : Int} (h : wfi a) : wrap64 (a + ((0 : Nat) : Int)) = a := by
  unfold wfi at h
  simp [wrap64]
  omega
/-- Allowed of the marked regions of a chain -/
theorem alw_read (L : List Rg) (a e x : Int) (h : Chain L a e) (h8 : L.length ≤ 8) (hx : wfi x) : alw (rdL L L.length) L.length x 1 1 = decide (a ≤ x ∧ x < e) := by
  have hok : okB (rdL L L.length) L.length = true := by
    rw [okB_iff]
    intro i hi
    rw [rdL_getD L L.length i hi, if_pos hi]
    exact (chain_ok L a e h _ (mem_getD hi)).1
  have hone := oneTo_read L x L.length (Nat.le_refl _)
  have hc := chain_has L a e h x
  unfold alw
  rw [hok, decide_eq_true h8, show wd 1 = true from rfl]
  have e1 : upB (rdL L L.length) x 1 L.length (1 : Int).toNat = oneTo (rdL L L.length) x 1 L.length := by
    show ((List.range 1).all fun i => oneTo (rdL L L.length) (wrap64 (x + i)) 1 L.length) = _
    simp only [List.range_one, List.all_cons, List.all_nil, Bool.and_true]
    rw [w64 hx]
  rw [e1]
  simp only [Bool.true_and]
  rw [Bool.eq_iff_iff, hone]
  simp only [decide_eq_true_eq]
  rw [← hc]
  constructor
  · rintro ⟨j, hj, hh⟩; exact ⟨_, mem_getD hj, hh⟩
  · rintro ⟨g, hg, hh⟩
    obtain ⟨j, hj, rfl⟩ := getD_mem hg
    exact ⟨j, hj, hh⟩
theorem alw_write (L : List Rg) (a e x : Int) (h : Chain L a e) (hx : wfi x) : alw (rdL L L.length) L.length x 1 2 = false := by
  unfold alw
  have e1 : upB (rdL L L.length) x 2 L.length (1 : Int).toNat = false := by
    show ((List.range 1).all fun i => oneTo (rdL L L.length) (wrap64 (x + i)) 2 L.length) = _
    simp only [List.range_one, List.all_cons, List.all_nil, Bool.and_true]
    exact oneTo_write L _ (fun g hg => (chain_ok L a e h g hg).2) L.length (Nat.le_refl _)
  rw [e1]
  simp

set_option maxHeartbeats 2000000 in
theorem drawCover_any (a : Option Addr) (n c : Nat) (zs : List Int) (w : World) (h : BS w a n c zs) :
    Calls Try.prog 9 #[.slice a n c] w fun e w' => ∃ f s : Int, e = .returned (.tuple #[.int .i64 f, .int .i64 s]) ∧ (-100000 ≤ f ∧ f ≤ 400000 ∧ 0 ≤ s ∧ s ≤ 100000) ∧ Below w.heap.size w w' := by
  obtain ⟨n', hn'⟩ : ∃ n', n' = min n 1000 := ⟨_, rfl⟩
  go_enter Try.func9, Try.ntmps9
  go_wp2_with fail
  refine (l1Open_any a n c n' zs _ h hn').mono ?_
  rintro e w1 ⟨rfl, hr1, hb1⟩
  clear hn' h
  have hs1 := hb1.size
  have hl1 := hr1.blk.lt
  obtain ⟨v1, E1, y0, y0'⟩ := draw_is hr1.bs 0
  obtain ⟨v2, E2, y1, y1'⟩ := draw_is hr1.bs 1
  obtain ⟨v3, E3, y2, y2'⟩ := draw_is hr1.bs 2
  obtain ⟨v4, E4, y3, y3'⟩ := draw_is hr1.bs 3
  go_wp2_with fail
  refine (next_is w.heap.size a n' c (zs.take 1000) 0 v1 _ hr1 E1).mono ?_
  rintro e w2 ⟨rfl, hr2, t2⟩
  have hB2 := below_turn hb1 t2 (fun j hj => by omega) (by omega)
  clear t2 hb1 hr1
  go_wp2_with fail
  refine (next_is w.heap.size a n' c (zs.take 1000) 1 v2 _ hr2 E2).mono ?_
  rintro e w3 ⟨rfl, hr3, t3⟩
  have hB3 := below_turn hB2 t3 (fun j hj => by omega) hB2.size
  clear t3 hB2 hr2
  go_wp2_with fail
  refine (next_is w.heap.size a n' c (zs.take 1000) 2 v3 _ hr3 E3).mono ?_
  rintro e w4 ⟨rfl, hr4, t4⟩
  have hB4 := below_turn hB3 t4 (fun j hj => by omega) hB3.size
  clear t4 hB3 hr3
  go_wp2_with fail
  refine (next_is w.heap.size a n' c (zs.take 1000) 3 v4 _ hr4 E4).mono ?_
  rintro e w5 ⟨rfl, hr5, t5⟩
  have hB5 := below_turn hB4 t5 (fun j hj => by omega) hB4.size
  clear t5 hB4 hr4 hr5
  go_wp2
  all_goals
    go_ret2
    exact ⟨_, _, rfl, by omega, hB5⟩
end Go.Proofs.Ythnelonbpbhhbab
