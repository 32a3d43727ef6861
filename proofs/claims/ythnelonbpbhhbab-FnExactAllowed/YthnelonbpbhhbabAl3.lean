import Derived.Test.YthnelonbpbhhbabAl2
import Derived.Test.YthnelonbpbhhbabRd1
namespace Go.Proofs.Ythnelonbpbhhbab
open Go.RowKit
set_option linter.unusedVariables false

/-- IS EACH OF THE FIRST m ADDRESSES FROM a ON ALLOWED? -/
def upB (rs : List Rg) (a k : Int) (n m : Nat) : Bool := (List.range m).all fun i => oneTo rs (wrap64 (a + i)) k n
/-- ARE THE FIRST m REGIONS VALID? -/
def okB (rs : List Rg) (m : Nat) : Bool := (List.range m).all fun i => gok (rs.getD i z6)
def upTo (rs : List Rg) (a k : Int) (n m : Nat) : Prop := ∀ i, i < m → oneTo rs (wrap64 (a + i)) k n = true
def okTo (rs : List Rg) (m : Nat) : Prop := ∀ i, i < m → gok (rs.getD i z6) = true
theorem okB_iff {rs : List Rg} {m : Nat} : okB rs m = true ↔ okTo rs m := by simp [okB, okTo]
theorem upB_iff {rs : List Rg} {a k : Int} {n m : Nat} : upB rs a k n m = true ↔ upTo rs a k n m := by simp [upB, upTo]
theorem okB_false {rs : List Rg} {n j : Nat} (hj : j < n) (h : gok (rs.getD j z6) = false) : okB rs n = false := by
  cases e : okB rs n
  · rfl
  · have := okB_iff.1 e j hj; rw [h] at this; simp at this
theorem upB_false {rs : List Rg} {a k : Int} {n m j : Nat} (hj : j < m) (h : oneTo rs (wrap64 (a + j)) k n = false) : upB rs a k n m = false := by
  cases e : upB rs a k n m
  · rfl
  · have := upB_iff.1 e j hj; rw [h] at this; simp at this

theorem okTo_all {rs : List Rg} {n : Nat} (hl : rs.length = n) (h : okTo rs n) : ∀ g ∈ rs, gok g = true := by
  intro g hg
  obtain ⟨i, hi, rfl⟩ := List.getElem_of_mem hg
  have := h i (by omega)
  simpa [List.getD_eq_getElem?_getD, hi] using this
theorem okTo_succ {rs : List Rg} {j : Nat} (h : okTo rs j) (hg : gok (rs.getD j z6) = true) : okTo rs (j + 1) := by
  intro i hi
  by_cases e : i = j
  · subst e; exact hg
  · exact h i (by omega)
theorem upTo_succ {rs : List Rg} {a k : Int} {n j : Nat} (h : upTo rs a k n j) (hg : oneTo rs (wrap64 (a + j)) k n = true) : upTo rs a k n (j + 1) := by
  intro i hi
  by_cases e : i = j
  · subst e; exact hg
  · exact h i (by omega)
theorem wfl {z : Int} (h : wfi z) : (Lit.int .i64 z).wf = true := by
  obtain ⟨h0, h1⟩ := h
  simp [Lit.wf, IntKind.min, IntKind.max, IntKind.signed, IntKind.bits]
  omega
theorem wrap_wfi (z : Int) : wfi (wrap64 z) := by
  unfold wfi wrap64
  omega
theorem oneTo_no (rs : List Rg) (a k : Int) (h : k < 1 ∨ 3 < k) : ∀ n, oneTo rs a k n = false
  | 0 => rfl
  | n + 1 => by
    have h1 : ∀ g : Rg, glets g k = false := by
      intro g
      unfold glets lets
      rw [if_neg (by omega), if_neg (by omega), if_neg (by omega)]
    rw [oneTo, h1, oneTo_no rs a k h n]
    simp

/-- WHAT Allowed ANSWERS. -/
def alw (rs : List Rg) (n : Nat) (a s k : Int) : Bool := decide (n ≤ 8) && (wd s && (okB rs n && upB rs a k n s.toNat))

set_option maxHeartbeats 1000000 in
theorem sAllowed_bad (x : Option Addr) (n cap : Nat) (a s k : Int) (w : World) (h : 8 < n ∨ wd s = false ∨ k < 1 ∨ 3 < k) (hm : n ≤ maxLen) :
    Calls Try.prog 27 #[.slice x n cap, .int .i64 a, .int .i64 s, .int .i64 k] w fun e w' => e = .returned (.bool false) ∧ Below w.heap.size w w' := by
  unfold maxLen at hm
  by_cases h8 : 8 < (n:Int)
  · clear h
    go_enter Try.func27, Try.ntmps27
    go_wp2
    go_ret
    exact ⟨rfl, Below.refl _ _⟩
  · cases hs : wd s
    · clear h
      go_enter Try.func27, Try.ntmps27
      go_wp2_with fail
      refine (l1Size_any s _).mono ?_
      rw [hs]
      rintro e w2 ⟨rfl, rfl⟩
      go_wp2
      go_ret
      exact ⟨rfl, Below.refl _ _⟩
    · by_cases hk : k < 1
      · clear h
        go_enter Try.func27, Try.ntmps27
        go_wp2_with fail
        refine (l1Size_any s _).mono ?_
        rw [hs]
        rintro e w2 ⟨rfl, rfl⟩
        go_wp2
        go_ret
        exact ⟨rfl, Below.refl _ _⟩
      · have hk3 : 3 < k := by
          rcases h with h | h | h | h
          · omega
          · rw [hs] at h; simp at h
          · omega
          · exact h
        clear h
        go_enter Try.func27, Try.ntmps27
        go_wp2_with fail
        refine (l1Size_any s _).mono ?_
        rw [hs]
        rintro e w2 ⟨rfl, rfl⟩
        go_wp2
        go_ret
        exact ⟨rfl, Below.refl _ _⟩

set_option maxHeartbeats 2000000 in
theorem sAllowed_good (x : Option Addr) (n cap : Nat) (rs : List Rg) (a s k : Int) (w : World) (h : RS w x n cap rs) (hn : n ≤ 8) (hs : wd s = true) (hk1 : 1 ≤ k) (hk3 : k ≤ 3) (ha : wfi a) (F : Bool) (hF : F = (okB rs n && upB rs a k n s.toNat)) :
    Calls Try.prog 27 #[.slice x n cap, .int .i64 a, .int .i64 s, .int .i64 k] w fun e w' => e = .returned (.bool F) ∧ Below w.heap.size w w' := by
  have hl := h.1
  obtain ⟨ha0, ha1⟩ := ha
  have hs4 : 1 ≤ s ∧ s ≤ 4 := by have := hs; simp [wd] at this; omega
  obtain ⟨hs1, hs4⟩ := hs4
  have HS := hide hs
  have HF := hide hF
  clear hs hF
  go_enter Try.func27, Try.ntmps27
  go_wp2_with fail
  refine (l1Size_any s _).mono ?_
  rw [HS.out]
  rintro e w2 ⟨rfl, rfl⟩
  go_wp2
  go_loopw [9] (fun i wr => ∃ j : Nat, j ≤ n ∧ i = .int .i64 j ∧ okTo rs j ∧ Below w.heap.size w wr) (fun i _ => n - (intOf i).toNat)
  case atStart => exact ⟨0, Nat.zero_le _, rfl, fun i hi => absurd hi (by omega), Below.refl _ _⟩
  case round =>
    obtain ⟨j, hj, rfl, hok, hB⟩ := hrel
    by_cases hlt : j < n
    · obtain ⟨b, off, rfl⟩ := h.some (by omega)
      have hin : (j:Int) < (n:Int) := by omega
      have hat := (h.below hB).at j hlt
      have HOK := hide hok
      clear hok
      have hw1 := h.2.2.1 (rs.getD j z6) (by simp [List.getD_eq_getElem?_getD, show j < rs.length by omega])
      have hbad : gok (rs.getD j z6) = false → okB rs n = false := okB_false hlt
      have hgood : gok (rs.getD j z6) = true → okTo rs (j + 1) := okTo_succ HOK.out
      have HBAD := hide hbad
      have HGOOD := hide hgood
      clear hbad hgood
      generalize rs.getD j z6 = g at *
      obtain ⟨g1, g2, g3, g4, g5, g6⟩ := g
      have hw := wfl hw1.1
      clear hw1
      have q1 := hat.1
      have q2 := hat.2.1
      have q3 := hat.2.2.1
      have q4 := hat.2.2.2.1
      have q5 := hat.2.2.2.2.1
      have q6 := hat.2.2.2.2.2
      simp only at q1 q2 q3 q4 q5 q6
      go_wp2_with fail
      refine (sRegionOk_any g1 g2 g3 g4 g5 g6 _ hw).mono ?_
      rintro e w1 ⟨rfl, hb1⟩
      have hB1 := hB.trans (hb1.mono hB.size)
      cases hr : rok g1 g2 g3
      · have HR := hide hr
        clear hr
        go_wp2
        go_ret
        exact ⟨ret_bool (by rw [HF.out, HBAD.out HR.out]; rfl), hB1⟩
      · have HR := hide hr
        clear hr
        go_wp2
        go_roundw
        case rel => exact ⟨j + 1, by omega, by go_num, HGOOD.out HR.out, hB1⟩
        case measure => simp [intOf]; omega
    · have hjn : j = n := by omega
      subst hjn
      have HOK := hide hok
      clear hok
      go_wp2
      go_loopw [10] (fun i wr => ∃ m : Nat, (m : Int) ≤ s ∧ i = .int .i64 m ∧ upTo rs a k j m ∧ Below w.heap.size w wr) (fun i _ => s.toNat - (intOf i).toNat)
      case atStart => exact ⟨0, by omega, rfl, fun i hi => absurd hi (by omega), hB⟩
      case round =>
        obtain ⟨m, hm, rfl, hup, hB⟩ := hrel
        by_cases hlt : (m:Int) < s
        · have hbad : oneTo rs (wrap64 (a + m)) k j = false → upB rs a k j s.toNat = false := upB_false (by omega)
          have hgood : oneTo rs (wrap64 (a + m)) k j = true → upTo rs a k j (m + 1) := upTo_succ hup
          have HBAD := hide hbad
          have HGOOD := hide hgood
          have HUP := hide hup
          clear hbad hgood hup
          go_wp2_with fail
          refine (l2One_any x j cap rs _ k _ (h.below hB) (okTo_all hl HOK.out) (by omega) hn).mono ?_
          generalize oneTo rs (wrap64 (a + m)) k j = r at *
          rintro e w1 ⟨rfl, hb1⟩
          have hB1 := hB.trans (hb1.mono hB.size)
          cases r
          · have H1 := hide (HBAD.out rfl)
            clear HBAD HGOOD
            go_wp2
            go_ret
            exact ⟨ret_bool (by rw [HF.out, H1.out]; simp), hB1⟩
          · have H1 := hide (HGOOD.out rfl)
            clear HBAD HGOOD
            go_wp2
            go_roundw
            case rel => exact ⟨m + 1, by omega, by go_num, H1.out, hB1⟩
            case measure => simp [intOf]; omega
        · have hms : s.toNat = m := by omega
          have HM := hide (upB_iff.2 hup)
          rw [← hms] at HM
          have HUP := hide hup
          clear hup hms
          go_wp2
          go_ret
          exact ⟨ret_bool (by rw [HF.out, HM.out]; rw [okB_iff.2 HOK.out]; rfl), hB⟩

theorem sAllowed_any (x : Option Addr) (n cap : Nat) (rs : List Rg) (a s k : Int) (w : World) (h : RS w x n cap rs) (ha : wfi a) :
    Calls Try.prog 27 #[.slice x n cap, .int .i64 a, .int .i64 s, .int .i64 k] w fun e w' => e = .returned (.bool (alw rs n a s k)) ∧ Below w.heap.size w w' := by
  by_cases hb : 8 < n ∨ wd s = false ∨ k < 1 ∨ 3 < k
  · have hf : alw rs n a s k = false := by
      unfold alw
      rcases hb with hb | hb | hb
      · simp [show ¬ n ≤ 8 by omega]
      · simp [hb]
      · cases hs : wd s
        · simp
        · have h0 : 0 < s.toNat := by simp [wd] at hs; omega
          rw [upB_false h0 (oneTo_no rs _ k hb n)]
          simp
    rw [hf]
    exact sAllowed_bad x n cap a s k w hb h.2.1
  · have hs : wd s = true := by
      cases e : wd s
      · exact absurd (Or.inr (Or.inl e)) hb
      · rfl
    exact sAllowed_good x n cap rs a s k w h (by omega) hs (by omega) (by omega) ha _ (by simp [alw, hs, show n ≤ 8 by omega])
end Go.Proofs.Ythnelonbpbhhbab
