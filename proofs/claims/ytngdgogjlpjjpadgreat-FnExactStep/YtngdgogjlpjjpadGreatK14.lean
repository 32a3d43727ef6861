import Derived.Test.YtngdgogjlpjjpadGreatK13
import Derived.Test.YtngdgogjlpjjpadGreatK04
import Derived.Test.YtngdgogjlpjjpadGreatK08
import Derived.Test.YtngdgogjlpjjpadGreatK09
import Derived.Test.YtngdgogjlpjjpadGreatK06
namespace Go.Proofs.YtngdgogjlpjjpadGreat
open Go.RowKit
set_option linter.unusedVariables false

/-- IS EACH OF THE FIRST m ADDRESSES FROM a ON ALLOWED? -/
def upB (rs : List Rg) (a k : Int) (n m : Nat) : Bool := (List.range m).all fun i => oneTo rs (wrap64 (a + i)) k n
/-- ARE THE FIRST m REGIONS VALID? -/
def okB (rs : List Rg) (m : Nat) : Bool := (List.range m).all fun i => gok (rs.getD i z6)
def upTo (rs : List Rg) (a k : Int) (n m : Nat) : Prop := ∀ i, i < m → oneTo rs (wrap64 (a + i)) k n = true
def okTo (rs : List Rg) (m : Nat) : Prop := ∀ i, i < m → gok (rs.getD i z6) = true
theorem okB_iff {rs : List Rg} {m : Nat} : okB rs m = true ↔ okTo rs m := by simp [okB, okTo]
theorem upB_iff {rs : List Rg} {a k : Int} {n m : Nat} : upB rs a k n m = true ↔ upTo rs a k n m := by simp [upB, upTo]
theorem okB_false {rs : List Rg} {n j : Nat} (hj : j < n) (h : gok (rs.getD j z6) = false) : okB rs n = false := by
  cases e : okB rs n
  · rfl
  · have := okB_iff.1 e j hj; rw [h] at this; simp at this
theorem upB_false {rs : List Rg} {a k : Int} {n m j : Nat} (hj : j < m) (h : oneTo rs (wrap64 (a + j)) k n = false) : upB rs a k n m = false := by
  cases e : upB rs a k n m
  · rfl
  · have := upB_iff.1 e j hj; rw [h] at this; simp at this

theorem okTo_all {rs : List Rg} {n : Nat} (hl : rs.length = n) (h : okTo rs n) : ∀ g ∈ rs, gok g = true := by
  intro g hg
  obtain ⟨i, hi, rfl⟩ := List.getElem_of_mem hg
  have := h i (by omega)
  simpa [List.getD_eq_getElem?_getD, hi] using this
theorem okTo_succ {rs : List Rg} {j : Nat} (h : okTo rs j) (hg : gok (rs.getD j z6) = true) : okTo rs (j + 1) := by
  intro i hi
  by_cases e : i = j
  · subst e; exact hg
  · exact h i (by omega)
theorem upTo_succ {rs : List Rg} {a k : Int} {n j : Nat} (h : upTo rs a k n j) (hg : oneTo rs (wrap64 (a + j)) k n = true) : upTo rs a k n (j + 1) := by
  intro i hi
  by_cases e : i = j
  · subst e; exact hg
  · exact h i (by omega)
theorem wfl {z : Int} (h : wfi z) : (Lit.int .i64 z).wf = true := by
  obtain ⟨h0, h1⟩ := h
  simp [Lit.wf, IntKind.min, IntKind.max, IntKind.signed, IntKind.bits]
  omega
theorem wrap_wfi (z : Int) : wfi (wrap64 z) := by
  unfold wfi wrap64
  omega
theorem oneTo_no (rs : List Rg) (a k : Int) (h : k < 1 ∨ 3 < k) : ∀ n, oneTo rs a k n = false
  | 0 => rfl
  | n + 1 => by
    have h1 : ∀ g : Rg, glets g k = false := by
      intro g
      unfold glets lets
      rw [if_neg (by omega), if_neg (by omega), if_neg (by omega)]
    rw [oneTo, h1, oneTo_no rs a k h n]
    simp

/-- WHAT Allowed ANSWERS. -/
def alw (rs : List Rg) (n : Nat) (a s k : Int) : Bool := decide (n ≤ 8) && (wd s && (okB rs n && upB rs a k n s.toNat))

set_option maxHeartbeats 1000000 in
theorem sAllowed_bad (x : Option Addr) (n cap : Nat) (a s k : Int) (w : World) (h : 8 < n ∨ wd s = false ∨ k < 1 ∨ 3 < k) (hm : n ≤ maxLen) :
    Calls Tryz.prog 82 #[.slice x n cap, .int .i64 a, .int .i64 s, .int .i64 k] w fun e w' => e = .returned (.bool false) ∧ Below w.heap.size w w' := by
  unfold maxLen at hm
  by_cases h8 : 8 < (n:Int)
  · clear h
    go_enter Tryz.func82, Tryz.ntmps82
    go_wp2
    go_ret
    exact ⟨rfl, Below.refl _ _⟩
  · cases hs : wd s
    · clear h
      go_enter Tryz.func82, Tryz.ntmps82
      go_wp2_with fail
      refine (l1Size_any s _).mono ?_
      rw [hs]
      rintro e w2 ⟨rfl, rfl⟩
      go_wp2
      go_ret
      exact ⟨rfl, Below.refl _ _⟩
    · by_cases hk : k < 1
      · clear h
        go_enter Tryz.func82, Tryz.ntmps82
        go_wp2_with fail
        refine (l1Size_any s _).mono ?_
        rw [hs]
        rintro e w2 ⟨rfl, rfl⟩
        go_wp2
        go_ret
        exact ⟨rfl, Below.refl _ _⟩
      · have hk3 : 3 < k := by
          rcases h with h | h | h | h
          · omega
          · rw [hs] at h; simp at h
          · omega
          · exact h
        clear h
        go_enter Tryz.func82, Tryz.ntmps82
        go_wp2_with fail
        refine (l1Size_any s _).mono ?_
        rw [hs]
        rintro e w2 ⟨rfl, rfl⟩
        go_wp2
        go_ret
        exact ⟨rfl, Below.refl _ _⟩

set_option maxHeartbeats 2000000 in
theorem sAllowed_good (x : Option Addr) (n cap : Nat) (rs : List Rg) (a s k : Int) (w : World) (h : RS w x n cap rs) (hn : n ≤ 8) (hs : wd s = true) (hk1 : 1 ≤ k) (hk3 : k ≤ 3) (ha : wfi a) (F : Bool) (hF : F = (okB rs n && upB rs a k n s.toNat)) :
    Calls Tryz.prog 82 #[.slice x n cap, .int .i64 a, .int .i64 s, .int .i64 k] w fun e w' => e = .returned (.bool F) ∧ Below w.heap.size w w' := by
  have hl := h.1
  obtain ⟨ha0, ha1⟩ := ha
  have hs4 : 1 ≤ s ∧ s ≤ 4 := by have := hs; simp [wd] at this; omega
  obtain ⟨hs1, hs4⟩ := hs4
  have HS := hide hs
  have HF := hide hF
  clear hs hF
  go_enter Tryz.func82, Tryz.ntmps82
  go_wp2_with fail
  refine (l1Size_any s _).mono ?_
  rw [HS.out]
  rintro e w2 ⟨rfl, rfl⟩
  go_wp2
  go_loopw [9] (fun i wr => ∃ j : Nat, j ≤ n ∧ i = .int .i64 j ∧ okTo rs j ∧ Below w.heap.size w wr) (fun i _ => n - (intOf i).toNat)
  case atStart => exact ⟨0, Nat.zero_le _, rfl, fun i hi => absurd hi (by omega), Below.refl _ _⟩
  case round =>
    obtain ⟨j, hj, rfl, hok, hB⟩ := hrel
    by_cases hlt : j < n
    · obtain ⟨b, off, rfl⟩ := h.some (by omega)
      have hin : (j:Int) < (n:Int) := by omega
      have hat := (h.below hB).at j hlt
      have HOK := hide hok
      clear hok
      have hw1 := h.2.2.1 (rs.getD j z6) (by simp [List.getD_eq_getElem?_getD, show j < rs.length by omega])
      have hbad : gok (rs.getD j z6) = false → okB rs n = false := okB_false hlt
      have hgood : gok (rs.getD j z6) = true → okTo rs (j + 1) := okTo_succ HOK.out
      have HBAD := hide hbad
      have HGOOD := hide hgood
      clear hbad hgood
      generalize rs.getD j z6 = g at *
      obtain ⟨g1, g2, g3, g4, g5, g6⟩ := g
      have hw := wfl hw1.1
      clear hw1
      have q1 := hat.1
      have q2 := hat.2.1
      have q3 := hat.2.2.1
      have q4 := hat.2.2.2.1
      have q5 := hat.2.2.2.2.1
      have q6 := hat.2.2.2.2.2
      simp only at q1 q2 q3 q4 q5 q6
      go_wp2_with fail
      refine (sRegionOk_any g1 g2 g3 g4 g5 g6 _ hw).mono ?_
      rintro e w1 ⟨rfl, hb1⟩
      have hB1 := hB.trans (hb1.mono hB.size)
      cases hr : rok g1 g2 g3
      · have HR := hide hr
        clear hr
        go_wp2
        go_ret
        exact ⟨ret_bool (by rw [HF.out, HBAD.out HR.out]; rfl), hB1⟩
      · have HR := hide hr
        clear hr
        go_wp2
        go_roundw
        case rel => exact ⟨j + 1, by omega, by go_num, HGOOD.out HR.out, hB1⟩
        case measure => simp [intOf]; omega
    · have hjn : j = n := by omega
      subst hjn
      have HOK := hide hok
      clear hok
      go_wp2
      go_loopw [10] (fun i wr => ∃ m : Nat, (m : Int) ≤ s ∧ i = .int .i64 m ∧ upTo rs a k j m ∧ Below w.heap.size w wr) (fun i _ => s.toNat - (intOf i).toNat)
      case atStart => exact ⟨0, by omega, rfl, fun i hi => absurd hi (by omega), hB⟩
      case round =>
        obtain ⟨m, hm, rfl, hup, hB⟩ := hrel
        by_cases hlt : (m:Int) < s
        · have hbad : oneTo rs (wrap64 (a + m)) k j = false → upB rs a k j s.toNat = false := upB_false (by omega)
          have hgood : oneTo rs (wrap64 (a + m)) k j = true → upTo rs a k j (m + 1) := upTo_succ hup
          have HBAD := hide hbad
          have HGOOD := hide hgood
          have HUP := hide hup
          clear hbad hgood hup
          go_wp2_with fail
          refine (l2One_any x j cap rs _ k _ (h.below hB) (okTo_all hl HOK.out) (by omega) hn).mono ?_
          generalize oneTo rs (wrap64 (a + m)) k j = r at *
          rintro e w1 ⟨rfl, hb1⟩
          have hB1 := hB.trans (hb1.mono hB.size)
          cases r
          · have H1 := hide (HBAD.out rfl)
            clear HBAD HGOOD
            go_wp2
            go_ret
            exact ⟨ret_bool (by rw [HF.out, H1.out]; simp), hB1⟩
          · have H1 := hide (HGOOD.out rfl)
            clear HBAD HGOOD
            go_wp2
            go_roundw
            case rel => exact ⟨m + 1, by omega, by go_num, H1.out, hB1⟩
            case measure => simp [intOf]; omega
        · have hms : s.toNat = m := by omega
          have HM := hide (upB_iff.2 hup)
          rw [← hms] at HM
          have HUP := hide hup
          clear hup hms
          go_wp2
          go_ret
          exact ⟨ret_bool (by rw [HF.out, HM.out]; rw [okB_iff.2 HOK.out]; rfl), hB⟩

theorem sAllowed_any (x : Option Addr) (n cap : Nat) (rs : List Rg) (a s k : Int) (w : World) (h : RS w x n cap rs) (ha : wfi a) :
    Calls Tryz.prog 82 #[.slice x n cap, .int .i64 a, .int .i64 s, .int .i64 k] w fun e w' => e = .returned (.bool (alw rs n a s k)) ∧ Below w.heap.size w w' := by
  by_cases hb : 8 < n ∨ wd s = false ∨ k < 1 ∨ 3 < k
  · have hf : alw rs n a s k = false := by
      unfold alw
      rcases hb with hb | hb | hb
      · simp [show ¬ n ≤ 8 by omega]
      · simp [hb]
      · cases hs : wd s
        · simp
        · have h0 : 0 < s.toNat := by simp [wd] at hs; omega
          rw [upB_false h0 (oneTo_no rs _ k hb n)]
          simp
    rw [hf]
    exact sAllowed_bad x n cap a s k w hb h.2.1
  · have hs : wd s = true := by
      cases e : wd s
      · exact absurd (Or.inr (Or.inl e)) hb
      · rfl
    exact sAllowed_good x n cap rs a s k w h (by omega) hs (by omega) (by omega) ha _ (by simp [alw, hs, show n ≤ 8 by omega])
end Go.Proofs.YtngdgogjlpjjpadGreat

namespace Go.Proofs.YtngdgogjlpjjpadGreat
open Go.RowKit
set_option linter.unusedVariables false

set_option maxHeartbeats 1000000 in
theorem regionsOk_any (x : Option Addr) (n cap : Nat) (rs : List Rg) (w : World) (h : RS w x n cap rs) (F : Bool) (hF : F = (decide (n ≤ 8) && okB rs n)) :
    Calls Tryz.prog 120 #[.slice x n cap] w fun e w' => e = .returned (.bool F) ∧ Below w.heap.size w w' := by
  have hl := h.1
  have hmx := h.2.1
  unfold maxLen at hmx
  have HF := hide hF
  clear hF
  by_cases h8 : 8 < n
  · have h8' : (8:Int) < (n:Int) := by omega
    go_enter Tryz.func120, Tryz.ntmps120
    go_wp2
    go_ret
    exact ⟨ret_bool (by rw [HF.out]; simp [show ¬ n ≤ 8 by omega]), Below.refl _ _⟩
  · have h8' : ¬ (8:Int) < (n:Int) := by omega
    go_enter Tryz.func120, Tryz.ntmps120
    go_wp2
    go_loopw [10] (fun i wr => ∃ j : Nat, j ≤ n ∧ i = .int .i64 j ∧ okTo rs j ∧ Below w.heap.size w wr) (fun i _ => n - (intOf i).toNat)
    case atStart => exact ⟨0, Nat.zero_le _, rfl, fun i hi => absurd hi (by omega), Below.refl _ _⟩
    case round =>
      obtain ⟨j, hj, rfl, hok, hB⟩ := hrel
      by_cases hlt : j < n
      · obtain ⟨b, off, rfl⟩ := h.some (by omega)
        have hin : (j:Int) < (n:Int) := by omega
        have hbw : b < wr.heap.size := World.block_lt_of_cell? wr _ ((h.below hB).at j hlt).1
        have hat := (h.below hB).at j hlt
        have HOK := hide hok
        clear hok
        have hw1 := h.2.2.1 (rs.getD j z6) (by simp [List.getD_eq_getElem?_getD, show j < rs.length by omega])
        have hbad : gok (rs.getD j z6) = false → okB rs n = false := okB_false hlt
        have hgood : gok (rs.getD j z6) = true → okTo rs (j + 1) := okTo_succ HOK.out
        have HBAD := hide hbad
        have HGOOD := hide hgood
        clear hbad hgood
        generalize rs.getD j z6 = g at *
        obtain ⟨g1, g2, g3, g4, g5, g6⟩ := g
        have hw := wfl hw1.1
        clear hw1
        have q1 := hat.1
        have q2 := hat.2.1
        have q3 := hat.2.2.1
        have q4 := hat.2.2.2.1
        have q5 := hat.2.2.2.2.1
        have q6 := hat.2.2.2.2.2
        simp only at q1 q2 q3 q4 q5 q6

        have hBw : Below w.heap.size w wr := hB
        have hsz := hB.size
        go_wp2_with fail
        refine (iRegionOk_any g1 g2 g3 g4 g5 g6 _ hw).mono ?_
        rintro e w1 ⟨rfl, hb1⟩
        have hB1 := (hB.alloc hB.size (.cells #[.int .i64 g1, .int .i64 g2, .int .i64 g3, .bool g4, .bool g5, .bool g6] 135)).trans (hb1.mono (by simp; omega))
        cases hr : rok g1 g2 g3
        · have H1 := hide (HBAD.out hr)
          clear hr HBAD HGOOD
          go_wp2
          go_ret
          exact ⟨ret_bool (by rw [HF.out, H1.out]; simp), hB1⟩
        · have H1 := hide (HGOOD.out hr)
          clear hr HBAD HGOOD
          go_wp2
          go_roundw
          case rel => exact ⟨j + 1, by omega, by go_num, H1.out, hB1⟩
          case measure => simp [intOf]; omega
      · have hjn : j = n := by omega
        subst hjn
        have HOK := hide (okB_iff.2 hok)
        clear hok
        go_wp2
        go_ret
        exact ⟨ret_bool (by rw [HF.out, HOK.out]; simp; omega), hB⟩

set_option maxHeartbeats 2000000 in
theorem iAllowed_good (x : Option Addr) (j cap : Nat) (rs : List Rg) (a s k : Int) (w : World) (h : RS w x j cap rs) (hn : j ≤ 8) (hs : wd s = true) (hok : okTo rs j) (ha : wfi a) (F : Bool) (hF : F = (okB rs j && upB rs a k j s.toNat)) :
    Calls Tryz.prog 39 #[.slice x j cap, .int .i64 a, .int .i64 s, .int .i64 k] w fun e w' => e = .returned (.bool F) ∧ Below w.heap.size w w' := by
  have hl := h.1
  obtain ⟨ha0, ha1⟩ := ha
  have hs4 : 1 ≤ s ∧ s ≤ 4 := by have := hs; simp [wd] at this; omega
  obtain ⟨hs1, hs4⟩ := hs4
  have HS := hide hs
  have HF := hide hF
  have HOK := hide hok
  clear hs hF hok
  go_enter Tryz.func39, Tryz.ntmps39
  go_wp2_with fail
  refine (isWidth_any s _).mono ?_
  rw [HS.out]
  rintro e w2 ⟨rfl, rfl⟩
  go_wp2_with fail
  refine (regionsOk_any x j cap rs _ h true (by rw [okB_iff.2 HOK.out]; simp; omega)).mono ?_
  rintro e w0 ⟨rfl, hB⟩
  go_wp2
  go_loopw [19] (fun i wr => ∃ m : Nat, (m : Int) ≤ s ∧ i = .int .i64 m ∧ upTo rs a k j m ∧ Below w.heap.size w wr) (fun i _ => s.toNat - (intOf i).toNat)
  case atStart => exact ⟨0, by omega, rfl, fun i hi => absurd hi (by omega), hB⟩
  case round =>
    obtain ⟨m, hm, rfl, hup, hB⟩ := hrel
    by_cases hlt : (m:Int) < s
    · have hbad : oneTo rs (wrap64 (a + m)) k j = false → upB rs a k j s.toNat = false := upB_false (by omega)
      have hgood : oneTo rs (wrap64 (a + m)) k j = true → upTo rs a k j (m + 1) := upTo_succ hup
      have HBAD := hide hbad
      have HGOOD := hide hgood
      have HUP := hide hup
      clear hbad hgood hup
      go_wp2_with fail
      refine (addr_any x j cap rs _ k _ (h.below hB) (okTo_all hl HOK.out) (wrap_wfi _) hn).mono ?_
      generalize oneTo rs (wrap64 (a + m)) k j = r at *
      rintro e w1 ⟨rfl, hb1⟩
      have hB1 := hB.trans (hb1.mono hB.size)
      cases r
      · have H1 := hide (HBAD.out rfl)
        clear HBAD HGOOD
        go_wp2
        go_ret
        exact ⟨ret_bool (by rw [HF.out, H1.out]; simp), hB1⟩
      · have H1 := hide (HGOOD.out rfl)
        clear HBAD HGOOD
        go_wp2
        go_roundw
        case rel => exact ⟨m + 1, by omega, by go_num, H1.out, hB1⟩
        case measure => simp [intOf]; omega
    · have hms : s.toNat = m := by omega
      have HM := hide (upB_iff.2 hup)
      rw [← hms] at HM
      have HUP := hide hup
      clear hup hms
      go_wp2
      go_ret
      exact ⟨ret_bool (by rw [HF.out, HM.out]; rw [okB_iff.2 HOK.out]; rfl), hB⟩

set_option maxHeartbeats 1000000 in
theorem iAllowed_bad (x : Option Addr) (n cap : Nat) (rs : List Rg) (a s k : Int) (w : World) (h : RS w x n cap rs) (hb : wd s = false ∨ (decide (n ≤ 8) && okB rs n) = false) :
    Calls Tryz.prog 39 #[.slice x n cap, .int .i64 a, .int .i64 s, .int .i64 k] w fun e w' => e = .returned (.bool false) ∧ Below w.heap.size w w' := by
  cases hs : wd s
  · clear hb
    go_enter Tryz.func39, Tryz.ntmps39
    go_wp2_with fail
    refine (isWidth_any s _).mono ?_
    rw [hs]
    rintro e w2 ⟨rfl, rfl⟩
    go_wp2
    go_ret
    exact ⟨rfl, Below.refl _ _⟩
  · have hb := hide (show false = (decide (n ≤ 8) && okB rs n) by rcases hb with hb | hb; rw [hs] at hb; simp at hb; exact hb.symm)
    go_enter Tryz.func39, Tryz.ntmps39
    go_wp2_with fail
    refine (isWidth_any s _).mono ?_
    rw [hs]
    rintro e w2 ⟨rfl, rfl⟩
    go_wp2_with fail
    refine (regionsOk_any x n cap rs _ h false hb.out).mono ?_
    rintro e w0 ⟨rfl, hB⟩
    go_wp2
    go_ret
    exact ⟨rfl, hB⟩

theorem iAllowed_any (x : Option Addr) (n cap : Nat) (rs : List Rg) (a s k : Int) (w : World) (h : RS w x n cap rs) (ha : wfi a) :
    Calls Tryz.prog 39 #[.slice x n cap, .int .i64 a, .int .i64 s, .int .i64 k] w fun e w' => e = .returned (.bool (alw rs n a s k)) ∧ Below w.heap.size w w' := by
  cases hs : wd s
  · have hf : alw rs n a s k = false := by simp [alw, hs]
    rw [hf]
    exact iAllowed_bad x n cap rs a s k w h (Or.inl hs)
  · cases hr : (decide (n ≤ 8) && okB rs n)
    · have hf : alw rs n a s k = false := by
        unfold alw
        cases h8 : decide (n ≤ 8)
        · rfl
        · rw [h8] at hr
          simp at hr
          simp [hr]
      rw [hf]
      exact iAllowed_bad x n cap rs a s k w h (Or.inr hr)
    · simp at hr
      exact iAllowed_good x n cap rs a s k w h hr.1 hs (okB_iff.1 hr.2) ha _ (by simp [alw, hs, hr.1])
end Go.Proofs.YtngdgogjlpjjpadGreat

namespace Go.Proofs.YtngdgogjlpjjpadGreat
open Go.RowKit
set_option linter.unusedVariables false
set_option linter.unusedSimpArgs false
set_option maxRecDepth 100000

theorem Pr.mem {w : World} {g : Nat} {pc : Int} {rg : List Int} {s1 s2 s3 s4 : Value} (h : Pr w g pc rg s1 s2 s3 s4) : w.cell? ⟨g, 9, none⟩ = some s1 ∧ w.cell? ⟨g, 10, none⟩ = some s2 ∧ w.cell? ⟨g, 11, none⟩ = some s3 ∧ w.cell? ⟨g, 12, none⟩ = some s4 := by
  have hl := h.len
  refine ⟨?_, ?_, ?_, ?_⟩ <;> rw [h.blk.cell, Array.getElem?_append_right (by simp; omega)] <;> simp [hl]
theorem turn_rs {S : Nat → Prop} {w w' : World} {a : Option Addr} {n cap : Nat} {rs : List Rg} (ht : Turn S w w') (h : RS w a n cap rs) (hk : ∀ k, S k → ∀ b off, a = some ⟨b, off, none⟩ → b ≠ k) : RS w' a n cap rs := by
  obtain ⟨h1, h2, h3, h4, h5⟩ := h
  refine ⟨h1, h2, h3, fun hn => ?_, h5⟩
  obtain ⟨b, off, ha, hc⟩ := h4 hn
  refine ⟨b, off, ha, fun i hi => ?_⟩
  have key : ∀ o v, w.cell? ⟨b, o, none⟩ = some v → w'.cell? ⟨b, o, none⟩ = some v := fun o v hv => by
    have hl := World.block_lt_of_cell? w _ hv
    rw [World.cell?_of_block (w := w) (ht.block b hl (fun e => hk b e b off ha rfl))]
    exact hv
  obtain ⟨k1, k2, k3, k4, k5, k6⟩ := hc i hi
  exact ⟨key _ _ k1, key _ _ k2, key _ _ k3, key _ _ k4, key _ _ k5, key _ _ k6⟩

/-- THE PROCESSOR WITH ITS OWN MEMORY AND THE REGIONS. -/
structure Pm (w : World) (g base : Nat) (pc : Int) (rg : List Int) (a1 a2 a3 : Option Addr) (n1 c1 n2 c2 n3 c3 : Nat) (x1 x2 x3 : List Int) (ra : Option Addr) (rn rc : Nat) (rs : List Rg) : Prop where
  pr : Pr w g pc rg (.slice a1 n1 c1) (.slice a2 n2 c2) (.slice a3 n3 c3) (.slice ra rn rc)
  own : Own3 w base (.slice a1 n1 c1) (.slice a2 n2 c2) (.slice a3 n3 c3) x1 x2 x3
  far : ∀ v, v = Value.slice a1 n1 c1 ∨ v = Value.slice a2 n2 c2 ∨ v = Value.slice a3 n3 c3 → v.ownBlock ≠ some g
  bb : base ≤ g
  rs : RS w ra rn rc rs
  low : ∀ b off, ra = some ⟨b, off, none⟩ → b < base
theorem Pm.below {w w' : World} {g base : Nat} {pc : Int} {rg : List Int} {a1 a2 a3 : Option Addr} {n1 c1 n2 c2 n3 c3 : Nat} {x1 x2 x3 : List Int} {ra : Option Addr} {rn rc : Nat} {rs : List Rg} (h : Pm w g base pc rg a1 a2 a3 n1 c1 n2 c2 n3 c3 x1 x2 x3 ra rn rc rs) (hb : Below w.heap.size w w') : Pm w' g base pc rg a1 a2 a3 n1 c1 n2 c2 n3 c3 x1 x2 x3 ra rn rc rs :=
  ⟨h.pr.below hb, own3_below h.own hb, h.far, h.bb, h.rs.below hb, h.low⟩
theorem Pm.turn {w w' : World} {g base : Nat} {pc pc' : Int} {rg rg' : List Int} {a1 a2 a3 : Option Addr} {n1 c1 n2 c2 n3 c3 : Nat} {x1 x2 x3 : List Int} {ra : Option Addr} {rn rc : Nat} {rs : List Rg} (h : Pm w g base pc rg a1 a2 a3 n1 c1 n2 c2 n3 c3 x1 x2 x3 ra rn rc rs)
    (ht : Turn (fun j => j = g) w w') (hp : Pr w' g pc' rg' (.slice a1 n1 c1) (.slice a2 n2 c2) (.slice a3 n3 c3) (.slice ra rn rc)) : Pm w' g base pc' rg' a1 a2 a3 n1 c1 n2 c2 n3 c3 x1 x2 x3 ra rn rc rs :=
  ⟨hp, ⟨turn_ob ht h.own.1 (fun k hk e => h.far _ (.inl rfl) (e ▸ hk)), turn_ob ht h.own.2.1 (fun k hk e => h.far _ (.inr (.inl rfl)) (e ▸ hk)), turn_ob ht h.own.2.2.1 (fun k hk e => h.far _ (.inr (.inr rfl)) (e ▸ hk)), h.own.2.2.2⟩, h.far, h.bb,
    turn_rs ht h.rs (fun k hk b off ha e => by have h1 := h.low b off ha; have h2 := h.bb; have h3 : k = g := hk; omega), h.low⟩

/-- the blocks that are neither the processor's nor bytes stay -/
def Keeps (g : Nat) (w w' : World) : Prop := ∀ k u t, Blk w k u t → k ≠ g → t ≠ 5 → Blk w' k u t
theorem Keeps.trans {g : Nat} {a b c : World} (h : Keeps g a b) (k : Keeps g b c) : Keeps g a c := fun j u t hj hn ht => k j u t (h j u t hj hn ht) hn ht
theorem keeps_below {g : Nat} {w w' : World} (h : Below w.heap.size w w') : Keeps g w w' := fun j u t hj _ _ => hj.below h
theorem keeps_turn {g : Nat} {w w' : World} (h : Turn (fun j => j = g) w w') : Keeps g w w' := fun j u t hj hn _ => turn_blk h hj hn

/-- WHAT AN OPERATION DID: event, pc, registers, memory. -/
structure Res where
  did : Int
  num : Int
  pc : Int
  rg : List Int
  x1 : List Int
  x2 : List Int
  x3 : List Int
def OpPost (w : World) (g base : Nat) (a1 a2 : Option Addr) (n1 c1 n2 c2 : Nat) (ra : Option Addr) (rn rc : Nat) (rs : List Rg) (r : Res) (e : Ending) (w' : World) : Prop :=
  ∃ a3 m3 d3, e = .returned (.agg #[.int .i64 r.did, .int .i64 r.num]) ∧ Pm w' g base r.pc r.rg a1 a2 a3 n1 c1 n2 c2 m3 d3 r.x1 r.x2 r.x3 ra rn rc rs ∧ Turn (fun j => base ≤ j) w w' ∧ Keeps g w w'

theorem ob_ne {W : World} {base G : Nat} {v : Value} {zs : List Int} {cs : Array Value} {t : TypeId} (h : OB W base v zs) (hk : Blk W G cs t) (ht : t ≠ 5) : v.ownBlock ≠ some G := by
  obtain ⟨hl, ⟨h0, _⟩ | ⟨g, cap, cur, rfl, hg, hh, _⟩⟩ := h.1
  · rw [h0]; intro e; cases e
  · intro e
    have e' : some g = some G := e
    injection e' with e'
    subst e'
    unfold Blk at hk
    rw [hh] at hk
    simp at hk
    exact ht hk.2.symm
theorem Pm.box {W W' : World} {g base G : Nat} {pc : Int} {rg : List Int} {a1 a2 a3 : Option Addr} {n1 c1 n2 c2 n3 c3 : Nat} {x1 x2 x3 : List Int} {ra : Option Addr} {rn rc : Nat} {rs : List Rg} {cs : Array Value} {t : TypeId} (h : Pm W g base pc rg a1 a2 a3 n1 c1 n2 c2 n3 c3 x1 x2 x3 ra rn rc rs)
    (hk : Blk W G cs t) (ht : t ≠ 5) (hg : G ≠ g) (hb : base ≤ G) (hT : Turn (fun j => j = G) W W') : Pm W' g base pc rg a1 a2 a3 n1 c1 n2 c2 n3 c3 x1 x2 x3 ra rn rc rs :=
  ⟨⟨turn_blk hT h.pr.blk (fun e => hg e.symm), h.pr.len, h.pr.pcw, h.pr.rgw⟩,
    ⟨turn_ob hT h.own.1 (fun k hk' e => ob_ne h.own.1 hk ht (by rw [hk']; exact congrArg some e)), turn_ob hT h.own.2.1 (fun k hk' e => ob_ne h.own.2.1 hk ht (by rw [hk']; exact congrArg some e)), turn_ob hT h.own.2.2.1 (fun k hk' e => ob_ne h.own.2.2.1 hk ht (by rw [hk']; exact congrArg some e)), h.own.2.2.2⟩, h.far, h.bb,
    turn_rs hT h.rs (fun k hk b off ha e => by have h1 := h.low b off ha; have h3 : k = G := hk; omega), h.low⟩
theorem op_done {w W : World} {g base G : Nat} {pc : Int} {rg : List Int} {a1 a2 a3 : Option Addr} {n1 c1 n2 c2 n3 c3 : Nat} {x1 x2 x3 : List Int} {ra : Option Addr} {rn rc : Nat} {rs : List Rg} {u v : Value} (h : Pm W g base pc rg a1 a2 a3 n1 c1 n2 c2 n3 c3 x1 x2 x3 ra rn rc rs)
    (hk : Blk W G #[u, v] 141) (hg : G ≠ g) (hb : base ≤ G) (hT : Turn (fun j => base ≤ j) w W) (hK : Keeps g w W) (hGw : w.heap.size ≤ G) (did num : Int) :
    OpPost w g base a1 a2 n1 c1 n2 c2 ra rn rc rs ⟨did, num, pc, rg, x1, x2, x3⟩ (.returned (.agg #[.int .i64 did, .int .i64 num])) ((W.setCell ⟨G, 0, none⟩ (.int .i64 did)).setCell ⟨G, 1, none⟩ (.int .i64 num)) ∧
      ((W.setCell ⟨G, 0, none⟩ (.int .i64 did)).setCell ⟨G, 1, none⟩ (.int .i64 num)).cell? ⟨G, 0, none⟩ = some (.int .i64 did) ∧ ((W.setCell ⟨G, 0, none⟩ (.int .i64 did)).setCell ⟨G, 1, none⟩ (.int .i64 num)).cell? ⟨G, 1, none⟩ = some (.int .i64 num) := by
  have hT2 := (turn_setg W G 0 (.int .i64 did)).trans (turn_setg _ G 1 (.int .i64 num))
  have kk := (hk.set 0 (.int .i64 did)).set 1 (.int .i64 num)
  refine ⟨⟨a3, n3, c3, rfl, h.box hk (by decide) hg hb hT2, hT.trans (hT2.mono fun k e => by have e' : k = G := e; omega), fun j u t hj hn ht => turn_blk hT2 (hK j u t hj hn ht) (fun e => by have e' : j = G := e; have := hj.lt; omega)⟩, ?_, ?_⟩
  · rw [kk.cell]; rfl
  · rw [kk.cell]; rfl

theorem rd_range (n1 n2 n3 : Nat) (x1 x2 : List Int) (p s : Int) (h1 : ∀ z ∈ x1, 0 ≤ z ∧ z ≤ 255) (h2 : ∀ z ∈ x2, 0 ≤ z ∧ z ≤ 255) : 0 ≤ (rd n1 n2 n3 x1 x2 p s).1 ∧ (rd n1 n2 n3 x1 x2 p s).1 ≤ 4294967295 := by
  unfold rd
  split
  · next hb =>
    have hs4 : s.toNat ≤ 4 := by rcases wd_cases hb.2 with rfl | rfl | rfl <;> decide
    split
    · simp
    · split
      · simp
      · split
        · exact low_small _ (fun z hz => h1 z (List.mem_of_mem_drop (List.mem_of_mem_take hz))) (by simp; omega)
        · split
          · exact low_small _ (fun z hz => h2 z (List.mem_of_mem_drop (List.mem_of_mem_take hz))) (by simp; omega)
          · simp
  · simp
end Go.Proofs.YtngdgogjlpjjpadGreat

namespace Go.Proofs.YtngdgogjlpjjpadGreat
open Go.RowKit
set_option linter.unusedVariables false
set_option maxRecDepth 100000

/-- A SLICE OF BYTES THAT READS AS zs. -/
def IS (w : World) (a : Option Addr) (n cap : Nat) (zs : List Int) : Prop :=
  zs.length = n ∧ n ≤ maxLen ∧ (∀ z ∈ zs, wfi z) ∧ (n ≠ 0 → ∃ b off, a = some ⟨b, off, none⟩ ∧ ∀ i, i < n → w.cell? ⟨b, off + i, none⟩ = some (.int .i64 (zs.getD i 0))) ∧ n ≤ cap

theorem IS.below {w w' : World} {a : Option Addr} {n cap : Nat} {zs : List Int} (h : IS w a n cap zs) (hb : Below w.heap.size w w') : IS w' a n cap zs := by
  obtain ⟨h1, h2, h3, h4, h5⟩ := h
  refine ⟨h1, h2, h3, fun hn => ?_, h5⟩
  obtain ⟨b, off, ha, hc⟩ := h4 hn
  refine ⟨b, off, ha, fun i hi => ?_⟩
  have := hc i hi
  rw [hb.cell (p := ⟨b, off + i, none⟩) (World.block_lt_of_cell? w _ this)]
  exact this

theorem IS.range {w : World} {a : Option Addr} {n cap : Nat} {zs : List Int} (h : IS w a n cap zs) (i : Nat) : wfi (zs.getD i 0) := by
  by_cases hi : i < zs.length
  · have := h.2.2.1 zs[i] (List.getElem_mem hi)
    simpa [List.getD_eq_getElem?_getD, hi] using this
  · simp [List.getD_eq_getElem?_getD, Nat.le_of_not_lt hi, wfi]

/-- A ROW OF BYTES OF THE CALL's OWN: the whole block g. -/
def RowI (w : World) (g : Nat) (zs : List Int) : Prop := w.heap[g]? = some (.cells (zs.map (Value.int .i64)).toArray 3 (0, 0))

theorem RowI.cell {w : World} {g : Nat} {zs : List Int} (h : RowI w g zs) (i : Nat) (hi : i < zs.length) : w.cell? ⟨g, i, none⟩ = some (.int .i64 (zs.getD i 0)) := by
  rw [cell_of_row w g i _ _ _ h]; simp [List.getD_eq_getElem?_getD, hi]
theorem RowI.frozen {w : World} {g : Nat} {zs : List Int} (h : RowI w g zs) (i : Nat) : w.frozen? ⟨g, i, none⟩ = false := frozen_of_row w g i _ _ h
theorem RowI.set {w : World} {g : Nat} {zs : List Int} (h : RowI w g zs) (i : Nat) (z : Int) : RowI (w.setCell ⟨g, i, none⟩ (.int .i64 z)) g (zs.set i z) := by
  unfold RowI at *
  rw [heap_setCell_same w g i _ _ _ h]
  simp [List.map_set]
theorem RowI.lt {w : World} {g : Nat} {zs : List Int} (h : RowI w g zs) : g < w.heap.size := by
  unfold RowI at h
  by_cases hg : g < w.heap.size
  · exact hg
  · simp [Array.getElem?_eq_none (Nat.le_of_not_lt hg)] at h
theorem RowI.below {w w' : World} {g : Nat} {zs : List Int} (h : RowI w g zs) (hb : Below w.heap.size w w') : RowI w' g zs := by
  have := hb.block g h.lt
  unfold RowI at *
  rw [this]; exact h
theorem RowI.is {w : World} {g : Nat} {zs : List Int} (h : RowI w g zs) (hm : zs.length ≤ maxLen) (hz : ∀ z ∈ zs, wfi z) (n cap : Nat) (hn : zs.length = n) (hc : n ≤ cap := by exact Nat.le_refl _) : IS w (some ⟨g, 0, none⟩) n cap zs := by
  subst hn
  exact ⟨rfl, hm, hz, fun _ => ⟨g, 0, rfl, fun i hi => by rw [Nat.zero_add]; exact h.cell i hi⟩, hc⟩

theorem infoI : (Tryz.prog.info? 3).map (fun i => (i.zero, i.size, i.bytes)) = some (some (.int .i64 0), 1, 8) := by kernel_rfl

theorem madeI (n : Nat) : (madeCells (Value.cells (.int .i64 0)) (n * 1)) = ((List.replicate n (0:Int)).map (Value.int .i64)).toArray := by
  apply Array.ext
  · simp [size_madeCells]
  · intro i h1 h2
    simp [madeCells, Value.cells, Nat.mod_one]

theorem rowI_of_made {w : World} {base g n : Nat} (h : w.ownsRow base 3 1 (.slice (some ⟨g, 0, none⟩) n n) n (madeCells (Value.cells (.int .i64 0)) (n * 1)).toList) : RowI w g (List.replicate n 0) := by
  obtain ⟨hl, h | ⟨g', cap, cur, hv, hb, hh, h1, h2, h3, h4⟩⟩ := h
  · simp at h
  · simp at hv
    obtain ⟨rfl, rfl⟩ := hv
    unfold RowI
    rw [hh]
    have e : cur.toList = (madeCells (Value.cells (.int .i64 0)) (n * 1)).toList := by
      rw [← h4, List.take_of_length_le (by simp [h3])]
    have e2 : cur = madeCells (Value.cells (.int .i64 0)) (n * 1) := Array.toList_inj.1 e
    rw [e2, madeI]


set_option maxHeartbeats 400000 in
theorem szIntS_any (a : Option Addr) (n cap : Nat) (l : Int) (w : World) (h0 : 0 ≤ l) (h1 : l ≤ 1048576) (hn : n ≤ maxLen) :
    Calls Tryz.prog 76 #[.slice a n cap, .int .i64 l] w fun e w' => e = .returned (.int .i64 (if l < n then -1 else l - n)) ∧ w' = w := by
  unfold maxLen at hn
  by_cases h : l < n
  · go_enter Tryz.func76, Tryz.ntmps76
    go_wp2
    go_ret
    exact ⟨rfl, rfl⟩
  · go_enter Tryz.func76, Tryz.ntmps76
    go_wp2
    go_ret
    exact ⟨rfl, rfl⟩

set_option maxHeartbeats 1000000 in
theorem toIntS_any (a : Option Addr) (n cap : Nat) (zs : List Int) (w : World) (h : IS w a n cap zs) (hn : n ≤ 1048576) :
    Calls Tryz.prog 90 #[.slice a n cap] w fun e w' => e = .returned (.slice (some ⟨w.heap.size, 0, none⟩) n n) ∧ RowI w' w.heap.size zs ∧ Below w.heap.size w w' := by
  obtain ⟨i0, hi, hz0, hz1, hz2⟩ := info_parts infoI
  obtain ⟨hl, hmx, hr, hc, _⟩ := h
  by_cases hn0 : n = 0
  · subst hn0
    obtain rfl : zs = [] := List.eq_nil_of_length_eq_zero hl
    clear hc
    go_enter Tryz.func90, Tryz.ntmps90
    go_wp2_with (at_make; refine wpList_make_full _ rfl _ _ 29 rfl w.heap.size 3 i0 (.int .i64 0) 1 Tryz.underlying29 hi hz0 hz1 .i64 .i64 _ _ 0 rfl rfl rfl rfl (by omega) (by unfold maxLen; omega) (Nat.le_refl _) ?_; intro w1 hown hgr)
    have hrow := rowI_of_made hown
    have hbel := below_grown hgr
    clear hown hgr
    go_loop [4] (fun i => i = .int .i64 0) (fun _ => 0)
    case atStart => rfl
    case round =>
      obtain rfl := hrel
      go_wp2
      go_ret
      exact ⟨rfl, hrow, hbel⟩
  · obtain ⟨b, off, rfl, hd⟩ := hc hn0
    clear hc
    go_enter Tryz.func90, Tryz.ntmps90
    go_wp2_with (at_make; refine wpList_make_full _ rfl _ _ 29 rfl w.heap.size 3 i0 (.int .i64 0) 1 Tryz.underlying29 hi hz0 hz1 .i64 .i64 _ _ n rfl rfl rfl rfl (by rw [hz2]; omega) (by unfold maxLen; omega) (Nat.le_refl _) ?_; intro w1 hown hgr)
    have hrow := rowI_of_made hown
    have hbel := below_grown hgr
    clear hown hgr hi hz0 hz1 hz2
    go_loopw [4] (fun i wr => ∃ k : Nat, k ≤ n ∧ i = .int .i64 k ∧ RowI wr w.heap.size (mid zs k) ∧ Below w.heap.size w wr) (fun i _ => n - (intOf i).toNat)
    case atStart => exact ⟨0, Nat.zero_le _, rfl, by rw [mid_zero, hl]; exact hrow, hbel⟩
    case round =>
      obtain ⟨k, hk, rfl, hR, hB⟩ := hrel
      clear hrow hbel
      by_cases hlt : k < n
      · have hlt' : (k : Int) < (n : Int) := by omega
        have hck : wr.cell? ⟨b, off + k, none⟩ = some (.int .i64 (zs.getD k 0)) := (hB.cell (World.block_lt_of_cell? w _ (hd k hlt))).trans (hd k hlt)
        have hgk : wr.cell? ⟨w.heap.size, k, none⟩ = some (.int .i64 ((mid zs k).getD k 0)) := hR.cell k (by rw [mid_len]; omega)
        have hfk : wr.frozen? ⟨w.heap.size, k, none⟩ = false := hR.frozen k
        have R' := hR.set k (zs.getD k 0)
        rw [mid_set zs k (by omega)] at R'
        have B' : Below w.heap.size w (wr.setCell ⟨w.heap.size, k, none⟩ (.int .i64 (zs.getD k 0))) := hB.setCell (Nat.le_refl _) _
        have HR := R'
        have HB := B'
        generalize zs.getD k 0 = z at *
        generalize (mid zs k).getD k 0 = z0 at *
        clear hd hR hB
        go_wp2
        go_roundw
        case rel => exact ⟨k + 1, by omega, by go_num, HR, HB⟩
        case measure => simp [intOf]; omega
      · have e : Hid (k = n) := by show k = n; omega
        go_wp2
        go_ret
        exact ⟨rfl, by rw [e.out, ← hl, mid_all] at hR; exact hR, hB⟩

theorem take_eq_succI (xs ys : List Int) (k : Nat) (h : xs.take k = ys.take k) (hx : k < xs.length) (hy : k < ys.length) (he : xs.getD k 0 = ys.getD k 0) : xs.take (k + 1) = ys.take (k + 1) := by
  rw [List.take_succ_eq_append_getElem hx, List.take_succ_eq_append_getElem hy, h]
  simp [List.getD_eq_getElem?_getD, hx, hy] at he
  rw [he]

set_option maxHeartbeats 1000000 in
theorem eqIntS_any (a a' : Option Addr) (n cap n' cap' : Nat) (xs ys : List Int) (w : World) (h : IS w a n cap xs) (h' : IS w a' n' cap' ys) :
    Calls Tryz.prog 100 #[.slice a n cap, .slice a' n' cap'] w fun e w' => e = .returned (.bool (decide (xs = ys))) ∧ Below w.heap.size w w' := by
  obtain ⟨hl, hmx, hr, hc, _⟩ := h
  obtain ⟨hl', hmx', hr', hc', _⟩ := h'
  unfold maxLen at hmx hmx'
  by_cases hn : n = n'
  · subst hn
    have hne : ((n : Int) != (n : Int)) = false := by simp
    by_cases hn0 : n = 0
    · subst hn0
      obtain rfl : xs = [] := List.eq_nil_of_length_eq_zero hl
      obtain rfl : ys = [] := List.eq_nil_of_length_eq_zero hl'
      clear hc hc'
      go_enter Tryz.func100, Tryz.ntmps100
      go_wp2
      go_loop [5] (fun i => i = .int .i64 0) (fun _ => 0)
      case atStart => rfl
      case round =>
        obtain rfl := hrel
        go_wp2
        go_ret
        exact ⟨rfl, Below.refl _ _⟩
    · obtain ⟨b, off, rfl, hd⟩ := hc hn0
      obtain ⟨b', off', rfl, hd'⟩ := hc' hn0
      clear hc hc'
      go_enter Tryz.func100, Tryz.ntmps100
      go_wp2
      go_loopw [5] (fun i wr => ∃ k : Nat, k ≤ n ∧ i = .int .i64 k ∧ xs.take k = ys.take k ∧ Below w.heap.size w wr) (fun i _ => n - (intOf i).toNat)
      case atStart => exact ⟨0, Nat.zero_le _, rfl, by simp, Below.refl _ _⟩
      case round =>
        obtain ⟨k, hk, rfl, hT, hB⟩ := hrel
        by_cases hlt : k < n
        · have hlt' : (k : Int) < (n : Int) := by omega
          have hck : wr.cell? ⟨b, off + k, none⟩ = some (.int .i64 (xs.getD k 0)) := (hB.cell (World.block_lt_of_cell? w _ (hd k hlt))).trans (hd k hlt)
          have hck' : wr.cell? ⟨b', off' + k, none⟩ = some (.int .i64 (ys.getD k 0)) := (hB.cell (World.block_lt_of_cell? w _ (hd' k hlt))).trans (hd' k hlt)
          by_cases he : xs.getD k 0 = ys.getD k 0
          · have hS := take_eq_succI xs ys k hT (by omega) (by omega) he
            have HS : Hid (xs.take (k + 1) = ys.take (k + 1)) := hS
            rw [he] at hck
            clear hS hT hd hd' he
            generalize ys.getD k 0 = z at *
            have hz : (z != z) = false := by simp
            go_wp2
            go_quiet (fail)
            go_wp2
            go_roundw
            case rel => exact ⟨k + 1, by omega, by go_num, HS.out, below_drewN hB _⟩
            case measure => simp [intOf]; omega
          · have hf : Hid (decide (xs = ys) = false) := by
              show _ = _
              simp
              intro e
              exact he (by rw [e])
            have hz : (xs.getD k 0 != ys.getD k 0) = true := by simpa using he
            clear hT hd hd' he
            generalize ys.getD k 0 = z at *
            generalize xs.getD k 0 = z' at *
            go_wp2
            go_quiet (fail)
            go_wp2
            go_ret
            exact ⟨ret_bool hf.out.symm, below_drewN hB _⟩
        · have hf : Hid (decide (xs = ys) = true) := by
            show _ = _
            simp
            rw [List.take_of_length_le (by omega), List.take_of_length_le (by omega)] at hT
            exact hT
          clear hT hd hd'
          go_wp2
          go_ret
          exact ⟨ret_bool hf.out.symm, hB⟩
  · have hf : Hid (decide (xs = ys) = false) := by
      show _ = _
      simp
      intro e
      rw [e] at hl
      omega
    have hne : ((n : Int) != (n' : Int)) = true := by simp; omega
    clear hc hc'
    go_enter Tryz.func100, Tryz.ntmps100
    go_wp2
    go_ret
    exact ⟨ret_bool hf.out.symm, Below.refl _ _⟩
end Go.Proofs.YtngdgogjlpjjpadGreat

namespace Go.Proofs.YtngdgogjlpjjpadGreat
open Go.RowKit
set_option linter.unusedVariables false
set_option maxRecDepth 100000

theorem IS.at {w : World} {b off n cap : Nat} {zs : List Int} (h : IS w (Option.some ⟨b, off, none⟩) n cap zs) (i : Nat) (hi : i < n) : w.cell? ⟨b, off + i, none⟩ = Option.some (.int .i64 (zs.getD i 0)) := by
  obtain ⟨b', off', e, hd⟩ := h.2.2.2.1 (by omega)
  simp at e
  obtain ⟨rfl, rfl⟩ := e
  exact hd i hi
theorem IS.addr {w : World} {a : Option Addr} {n cap : Nat} {zs : List Int} (h : IS w a n cap zs) (hn : n ≠ 0) : ∃ b off, a = some ⟨b, off, none⟩ := by
  obtain ⟨b, off, e, _⟩ := h.2.2.2.1 hn
  exact ⟨b, off, e⟩
def OI (w : World) (base : Nat) (v : Value) (zs : List Int) : Prop := w.ownsRow base 3 1 v zs.length (zs.map (Value.int .i64)) ∧ ∀ z ∈ zs, wfi z

theorem is_news {w : World} {b off n cap : Nat} {zs : List Int} (h : IS w (some ⟨b, off, none⟩) n cap zs) : ∀ j u, (zs.map (Value.int .i64))[j]? = some u → w.cell? ((⟨b, off, none⟩ : Addr).add j) = some u := by
  intro j u hj
  have hl := h.1
  have hjl : j < n := by
    by_cases e : j < n
    · exact e
    · rw [List.getElem?_eq_none (by simp; omega)] at hj; simp at hj
  rw [addr_add, h.at j hjl]
  rw [← hj]
  simp [List.getD_eq_getElem?_getD, show j < zs.length by omega]
theorem own_emptyI (w : World) : (w.alloc (.cells #[] 3)).ownsRow w.heap.size 3 1 (.slice (some ⟨w.heap.size, 0, none⟩) 0 0) 0 [] :=
  ⟨rfl, .inr ⟨w.heap.size, 0, #[], rfl, Nat.le_refl _, heap_alloc_new w _, Nat.le_refl _, Nat.zero_le _, rfl, rfl⟩⟩
theorem OI.below {w w' : World} {base : Nat} {v : Value} {zs : List Int} (h : OI w base v zs) (hb : Below w.heap.size w w') : OI w' base v zs := by
  refine ⟨?_, h.2⟩
  obtain ⟨hl, h0 | ⟨g, cap, cur, hv, hg, hh, h1, h2, h3, h4⟩⟩ := h.1
  · exact ⟨hl, .inl h0⟩
  · refine ⟨hl, .inr ⟨g, cap, cur, hv, hg, ?_, h1, h2, h3, h4⟩⟩
    exact Blk.below (w := w) hh hb
theorem OI.mono {w : World} {base base' : Nat} {v : Value} {zs : List Int} (h : OI w base v zs) (hb : base' ≤ base) : OI w base' v zs := by
  refine ⟨?_, h.2⟩
  obtain ⟨hl, h0 | ⟨g, cap, cur, hv, hg, hh, h1, h2, h3, h4⟩⟩ := h.1
  · exact ⟨hl, .inl h0⟩
  · exact ⟨hl, .inr ⟨g, cap, cur, hv, by omega, hh, h1, h2, h3, h4⟩⟩
theorem OI.other {w : World} {base : Nat} {v : Value} {zs : List Int} (h : OI w base v zs) (a : Addr) (u : Value) (ha : a.block < base) : OI (w.setCell a u) base v zs := by
  refine ⟨?_, h.2⟩
  obtain ⟨hl, h0 | ⟨g, cap, cur, hv, hg, hh, h1, h2, h3, h4⟩⟩ := h.1
  · exact ⟨hl, .inl h0⟩
  · exact ⟨hl, .inr ⟨g, cap, cur, hv, hg, Blk.other (w := w) hh a u (by omega), h1, h2, h3, h4⟩⟩
theorem OI.lt {w : World} {base : Nat} {v : Value} {zs : List Int} (h : OI w base v zs) : ∀ k, v.ownBlock = some k → base ≤ k ∧ k < w.heap.size := h.1.lt
theorem OI.is {w : World} {base n cap : Nat} {a : Option Addr} {zs : List Int} (h : OI w base (.slice a n cap) zs) : IS w a n cap zs := by
  obtain ⟨hl, ⟨h0, h0'⟩ | ⟨g, cap', cur, hv, hg, hh, h1, h2, h3, h4⟩⟩ := h.1
  · simp at h0
    obtain ⟨rfl, rfl, rfl⟩ := h0
    exact ⟨h0', Nat.zero_le _, h.2, fun hn => absurd rfl hn, Nat.le_refl _⟩
  · simp at hv
    obtain ⟨rfl, rfl, rfl⟩ := hv
    refine ⟨rfl, by omega, h.2, fun hn => ⟨g, 0, rfl, fun i hi => ?_⟩, h1⟩
    rw [Nat.zero_add, Blk.cell (w := w) hh]
    have : cur.toList[i]? = (zs.map (Value.int .i64))[i]? := by
      rw [← h4, List.getElem?_take, if_pos (by omega)]
    rw [Array.getElem?_toList] at this
    rw [this]
    simp [List.getD_eq_getElem?_getD, hi]

def RoomI (w : World) (g n : Nat) : Prop := ∃ cur, Blk w g cur 3 ∧ n ≤ cur.size
theorem RoomI.cell {w : World} {g n : Nat} (h : RoomI w g n) (i : Nat) (hi : i < n) : ∃ u, w.cell? ⟨g, i, none⟩ = some u := by
  obtain ⟨cur, hb, hn⟩ := h
  rw [hb.cell]
  exact ⟨cur[i], by simp⟩
theorem RoomI.frozen {w : World} {g n : Nat} (h : RoomI w g n) (i : Nat) : w.frozen? ⟨g, i, none⟩ = false := by
  obtain ⟨cur, hb, hn⟩ := h
  exact hb.frozen i
theorem RoomI.set {w : World} {g n : Nat} (h : RoomI w g n) (i : Nat) (u : Value) : RoomI (w.setCell ⟨g, i, none⟩ u) g n := by
  obtain ⟨cur, hb, hn⟩ := h
  exact ⟨_, hb.set i u, by simpa using hn⟩
theorem oi_set {w : World} {base g n cap : Nat} {zs : List Int} (h : OI w base (.slice (some ⟨g, 0, none⟩) n cap) zs) (i : Nat) (hi : i < n) (z : Int) (hz : wfi z) : OI (w.setCell ⟨g, i, none⟩ (.int .i64 z)) base (.slice (some ⟨g, 0, none⟩) n cap) (zs.set i z) := by
  obtain ⟨⟨hl, h0 | ⟨g', cap', cur, hv, hg, hh, h1, h2, h3, h4⟩⟩, hr⟩ := h
  · simp at h0
  · simp at hv
    obtain ⟨rfl, rfl, rfl⟩ := hv
    refine ⟨⟨by simp, .inr ⟨g, cap, cur.setIfInBounds i (.int .i64 z), by simp, hg, Blk.set (w := w) hh i _, by simpa using h1, h2, by simpa using h3, ?_⟩⟩, ?_⟩
    · rw [List.length_set, Array.toList_setIfInBounds, List.take_set, h4, List.map_set]
    · intro y hy
      rcases List.mem_or_eq_of_mem_set hy with hy | rfl
      · exact hr y hy
      · exact hz
theorem oi_room {w : World} {base g n cap : Nat} {zs : List Int} (h : OI w base (.slice (some ⟨g, 0, none⟩) n cap) zs) : RoomI w g n := by
  obtain ⟨⟨hl, h0 | ⟨g', cap', cur, hv, hg, hh, h1, h2, h3, h4⟩⟩, hr⟩ := h
  · simp at h0
  · simp at hv
    obtain ⟨rfl, rfl, rfl⟩ := hv
    exact ⟨cur, hh, by omega⟩

theorem oi_far {w : World} {base g : Nat} {v : Value} {zs : List Int} (h : OI w base v zs) (a : Addr) (u : Value) (ha : v.ownBlock ≠ some a.block) : OI (w.setCell a u) base v zs := by
  refine ⟨?_, h.2⟩
  obtain ⟨hl, h0 | ⟨g', cap, cur, rfl, hg, hh, h1, h2, h3, h4⟩⟩ := h.1
  · exact ⟨hl, .inl h0⟩
  · exact ⟨hl, .inr ⟨g', cap, cur, rfl, hg, Blk.other (w := w) hh a u (by intro e; apply ha; rw [← e]; rfl), h1, h2, h3, h4⟩⟩
theorem grown_oi {w w' : World} {row : Option Nat} {base : Nat} {v : Value} {zs : List Int} (hg : w.grownBy w' row) (h : OI w base v zs) (hk : v.ownBlock = none ∨ v.ownBlock ≠ row) : OI w' base v zs :=
  ⟨h.1.kept hg hk, h.2⟩

theorem turn_oi {S : Nat → Prop} {base : Nat} {w w' : World} {v : Value} {zs : List Int} (ht : Turn S w w') (h : OI w base v zs) (hk : ∀ k, v.ownBlock = some k → ¬ S k) : OI w' base v zs := by
  refine ⟨?_, h.2⟩
  obtain ⟨hl, h0 | ⟨g', cap, cur, rfl, hg, hh, h1, h2, h3, h4⟩⟩ := h.1
  · exact ⟨hl, .inl h0⟩
  · exact ⟨hl, .inr ⟨g', cap, cur, rfl, hg, turn_blk ht hh (hk g' rfl), h1, h2, h3, h4⟩⟩
/-- the marksI: k, k + 1, .. as bytes, n of them -/
def marksI (k n : Nat) : List Int := (List.range n).map fun i => ((k + i : Nat) : Int)
theorem marksI_len (k n : Nat) : (marksI k n).length = n := by simp [marksI]
def mixedI (zs : List Int) (k m : Nat) : List Int := (List.range zs.length).map fun i => if i < m then ((k + i : Nat) : Int) else zs.getD i 0
theorem mixedI_zero (zs : List Int) (k : Nat) : mixedI zs k 0 = zs := by
  apply List.ext_getElem
  · simp [mixedI]
  · intro i h1 h2; simp [mixedI, h2]
theorem mixedI_all (zs : List Int) (k : Nat) : mixedI zs k zs.length = marksI k zs.length := by
  apply List.ext_getElem
  · simp [mixedI, marksI]
  · intro i h1 h2
    simp [marksI] at h2
    simp [mixedI, marksI, h2]
theorem mixedI_len (zs : List Int) (k m : Nat) : (mixedI zs k m).length = zs.length := by simp [mixedI]
theorem mixedI_set (zs : List Int) (k m : Nat) (h : m < zs.length) : (mixedI zs k m).set m (((k + m : Nat) : Int)) = mixedI zs k (m + 1) := by
  apply List.ext_getElem
  · simp [mixedI]
  · intro i h1 h2
    simp only [mixedI, List.getElem_set, List.getElem_map, List.getElem_range]
    by_cases hik : m = i
    · subst hik; simp
    · by_cases h3 : i < m
      · simp [hik, h3, show i < m + 1 by omega]
      · simp [hik, h3, show ¬ i < m + 1 by omega]

set_option maxHeartbeats 1000000 in
theorem markIntS_some (g n cap base : Nat) (zs : List Int) (k : Nat) (w : World) (h : OI w base (.slice (some ⟨g, 0, none⟩) n cap) zs) (hn : n ≤ 2097152) (hk : k ≤ 4194304) :
    Calls Tryz.prog 103 #[.slice (some ⟨g, 0, none⟩) n cap, .int .i64 k] w fun e w' => e = .returned (.int .i64 ((k + n : Nat) : Int)) ∧ OI w' base (.slice (some ⟨g, 0, none⟩) n cap) (marksI k n) ∧ Turn (fun j => j = g) w w' := by
  have hl := h.is.1
  go_enter Tryz.func103, Tryz.ntmps103
  go_wp2
  go_loopw [1, 5] (fun x i wr => ∃ m : Nat, m ≤ n ∧ i = .int .i64 m ∧ x = .int .i64 ((k + m : Nat) : Int) ∧ OI wr base (.slice (some ⟨g, 0, none⟩) n cap) (mixedI zs k m) ∧ Turn (fun j => j = g) w wr) (fun _ i _ => n - (intOf i).toNat)
  case atStart => exact ⟨0, Nat.zero_le _, rfl, rfl, by rw [mixedI_zero]; exact h, Turn.refl _ _⟩
  case round =>
    obtain ⟨m, hm, rfl, rfl, hO, hT⟩ := hrel
    by_cases hlt : m < n
    · have hlt' : (m : Int) < (n : Int) := by omega
      obtain ⟨u, hu⟩ := (oi_room hO).cell m hlt
      have hf := (oi_room hO).frozen m
      have hset := oi_set hO m hlt (((k + m : Nat) : Int)) (by unfold wfi; omega)
      rw [mixedI_set zs k m (by omega)] at hset
      have hT2 : Turn (fun j => j = g) w (wr.setCell ⟨g, m, none⟩ (.int .i64 (((k + m : Nat) : Int)))) :=
        hT.trans ⟨rfl, rfl, rfl, by rw [size_setCell]; exact Nat.le_refl _, fun j hj hs => heap_setCell_other _ _ _ _ hs⟩
      have HO := hide hset
      have HT := hide hT2
      clear hset hT2 hO hT
      obtain ⟨K, hK⟩ : ∃ K : Int, K = ((k + m : Nat) : Int) := ⟨_, rfl⟩
      have hK0 : 0 ≤ K := by omega
      have hK1 : K ≤ 8388608 := by omega
      have HK := hide (show K + 1 = ((k + (m + 1) : Nat) : Int) by omega)
      rw [← hK] at HO HT ⊢
      clear hK
      go_wp2
      go_roundw
      case rel => exact ⟨m + 1, by omega, by go_num, by rw [HK.out], HO.out, HT.out⟩
      case measure => simp [intOf]; omega
    · have e : Hid (m = n) := by show m = n; omega
      go_wp2
      go_ret
      exact ⟨ret_int (by rw [e.out]), by rw [e.out, ← hl, mixedI_all] at hO; rw [hl] at hO; exact hO, hT⟩
set_option maxHeartbeats 1000000 in
theorem markIntS_zero (a : Option Addr) (cap k : Nat) (w : World) :
    Calls Tryz.prog 103 #[.slice a 0 cap, .int .i64 k] w fun e w' => e = .returned (.int .i64 k) ∧ w = w' := by
  go_enter Tryz.func103, Tryz.ntmps103
  go_wp2
  go_loop [1, 5] (fun x i => i = .int .i64 0 ∧ x = .int .i64 k) (fun _ _ => 0)
  case atStart => exact ⟨rfl, rfl⟩
  case round =>
    obtain ⟨rfl, rfl⟩ := hrel
    go_wp2
    go_ret
    exact ⟨rfl, rfl⟩

theorem markIntS_any (a : Option Addr) (n cap base : Nat) (zs : List Int) (k : Nat) (w : World) (h : OI w base (.slice a n cap) zs) (hn : n ≤ 2097152) (hk : k ≤ 4194304) :
    Calls Tryz.prog 103 #[.slice a n cap, .int .i64 k] w fun e w' => e = .returned (.int .i64 ((k + n : Nat) : Int)) ∧ OI w' base (.slice a n cap) (marksI k n) ∧ Turn (fun j => (Value.slice a n cap).ownBlock = some j) w w' := by
  by_cases h0 : n = 0
  · subst h0
    refine (markIntS_zero a cap k w).mono fun e w' he => ?_
    obtain ⟨rfl, rfl⟩ := he
    have hz : zs = [] := List.eq_nil_of_length_eq_zero h.is.1
    subst hz
    exact ⟨rfl, h, Turn.refl _ _⟩
  · obtain ⟨g, rfl⟩ : ∃ g, a = some ⟨g, 0, none⟩ := by
      obtain ⟨hl, ⟨h0', _⟩ | ⟨g, cap', cur, hv, _⟩⟩ := h.1
      · simp at h0'; exact absurd h0'.2.1 h0
      · simp at hv; exact ⟨g, hv.1⟩
    refine (markIntS_some g n cap base zs k w h hn hk).mono fun e w' he => ⟨he.1, he.2.1, he.2.2.mono ?_⟩
    intro j hj
    subst hj
    rfl

theorem marksI_getD (k n m : Nat) (h : m < n) : (marksI k n).getD m 0 = ((k + m : Nat) : Int) := by simp [marksI, List.getD_eq_getElem?_getD, h]

set_option maxHeartbeats 1000000 in
theorem heldIntS_any (a : Option Addr) (n cap : Nat) (k : Nat) (w : World) (h : IS w a n cap (marksI k n)) (hn : n ≤ 2097152) (hk : k ≤ 4194304) :
    Calls Tryz.prog 105 #[.slice a n cap, .int .i64 k] w fun e w' => e = .returned (.int .i64 ((k + n : Nat) : Int)) ∧ w = w' := by
  go_enter Tryz.func105, Tryz.ntmps105
  go_wp2
  go_loop [1, 5] (fun x i => ∃ m : Nat, m ≤ n ∧ i = .int .i64 m ∧ x = .int .i64 ((k + m : Nat) : Int)) (fun _ i => n - (intOf i).toNat)
  case atStart => exact ⟨0, Nat.zero_le _, rfl, rfl⟩
  case round =>
    obtain ⟨m, hm, rfl, rfl⟩ := hrel
    by_cases hlt : m < n
    · have hlt' : (m : Int) < (n : Int) := by omega
      obtain ⟨b, off, rfl⟩ := h.addr (by omega)
      have hc := h.at m hlt
      rw [marksI_getD k n m hlt] at hc
      obtain ⟨K, hK⟩ : ∃ K : Int, K = ((k + m : Nat) : Int) := ⟨_, rfl⟩
      have hK0 : 0 ≤ K := by omega
      have hK1 : K ≤ 8388608 := by omega
      have HK := hide (show K + 1 = ((k + (m + 1) : Nat) : Int) by omega)
      rw [← hK] at hc ⊢
      have hne : (K != K) = false := by simp
      clear hK
      go_wp2
      go_round
      case rel => exact ⟨m + 1, by omega, by go_num, by rw [HK.out]⟩
      case measure => simp [intOf]; omega
    · have e : Hid (m = n) := by show m = n; omega
      go_wp2
      go_ret
      exact ⟨ret_int (by rw [e.out]), rfl⟩

end Go.Proofs.YtngdgogjlpjjpadGreat
