import Derived.Test.YtngdgogjlpjjpaeGreatJ02
namespace Go.Proofs.YtngdgogjlpjjpaeGreat
open Go.RowKit
set_option linter.unusedVariables false

set_option maxHeartbeats 1000000 in
theorem iCover_bad (f s : Int) (w : World) (hs0 : -9223372036854775808 ≤ f ∧ f ≤ 9223372036854775807) (h : cvOk f s = false) :
    Calls Tryz.prog 274 #[.int .i64 f, .int .i64 s] w (CvPost w false []) := by
  have G1 := hide (isGrained_any f)
  have G2 := hide (isGrained_any s)
  have HN := hide (org_nil w w.heap.size)
  unfold cvOk at h
  cases e1 : grn f
  · rw [e1] at G1
    clear h e1
    go_enter Tryz.func274, Tryz.ntmps274
    go_wp2_with fail
    refine (G1.out w).mono ?_
    rintro e w1 ⟨rfl, rfl⟩
    go_wp2_with fail
    go_ret2
    exact ⟨none, 0, 0, rfl, HN.out, Below.refl _ _⟩
  · rw [e1] at G1 h
    have hf : 0 ≤ f := by unfold grn at e1; simp at e1; omega
    cases e2 : grn s
    · rw [e2] at G2
      clear h e1 e2
      go_enter Tryz.func274, Tryz.ntmps274
      go_wp2_with fail
      refine (G1.out w).mono ?_
      rintro e w1 ⟨rfl, rfl⟩
      go_wp2_with fail
      refine (G2.out w).mono ?_
      rintro e w1 ⟨rfl, rfl⟩
      go_wp2_with fail
      go_ret2
      exact ⟨none, 0, 0, rfl, HN.out, Below.refl _ _⟩
    · rw [e2] at G2 h
      have hlt : 262144 - f < s := by simp at h; omega
      clear h e1 e2
      go_enter Tryz.func274, Tryz.ntmps274
      go_wp2_with fail
      refine (G1.out w).mono ?_
      rintro e w1 ⟨rfl, rfl⟩
      go_wp2_with fail
      refine (G2.out w).mono ?_
      rintro e w1 ⟨rfl, rfl⟩
      go_wp2_with fail
      go_ret2
      exact ⟨none, 0, 0, rfl, HN.out, Below.refl _ _⟩

/-- THE COVER AT EVERY ARGUMENT. -/
def cvL (f s : Int) : List Rg := if cvOk f s then cvAll f s else []
theorem iCover_any (f s : Int) (w : World) (hs0 : -9223372036854775808 ≤ f ∧ f ≤ 9223372036854775807) :
    Calls Tryz.prog 274 #[.int .i64 f, .int .i64 s] w (CvPost w (cvOk f s) (cvL f s)) := by
  unfold cvL
  cases e : cvOk f s
  · exact iCover_bad f s w hs0 e
  · unfold cvOk grn at e
    simp at e
    exact iCover_good f s w (by omega) (by omega) (by omega) (by omega) (by omega)

/-- what l2Best has counted behind i parts -/
def ci (i0 j i : Nat) : Nat := min (i - i0) j
theorem ci_in' : ∀ (i0 : Fin 8) (j : Fin 9) (i : Fin 8), (i0.val ≤ i.val ∧ i.val < i0.val + j.val) → (ci i0 j (i.val + 1) = ci i0 j i + 1 ∧ 2 ^ i.val - 1 - runq i0 (ci i0 j i) = 2 ^ (i.val + 1) - 1 - runq i0 (ci i0 j (i.val + 1))) := by decide +kernel
theorem ci_out' : ∀ (i0 : Fin 8) (j : Fin 9) (i : Fin 8), ((i.val < i0.val ∨ i0.val + j.val ≤ i.val) ∧ i0.val + j.val ≤ 8) → (ci i0 j (i.val + 1) = ci i0 j i ∧ 2 ^ i.val - 1 - runq i0 (ci i0 j i) + 2 ^ i.val = 2 ^ (i.val + 1) - 1 - runq i0 (ci i0 j (i.val + 1))) := by decide +kernel
theorem ci_in (i0 : Nat) (h0 : i0 < 8) (j : Nat) (hj : j < 9) (i : Nat) (hi : i < 8) (h : i0 ≤ i ∧ i < i0 + j) : ci i0 j (i + 1) = ci i0 j i + 1 ∧ 2 ^ i - 1 - runq i0 (ci i0 j i) = 2 ^ (i + 1) - 1 - runq i0 (ci i0 j (i + 1)) := ci_in' ⟨i0, h0⟩ ⟨j, hj⟩ ⟨i, hi⟩ h
theorem ci_out (i0 : Nat) (h0 : i0 < 8) (j : Nat) (hj : j < 9) (i : Nat) (hi : i < 8) (h : (i < i0 ∨ i0 + j ≤ i) ∧ i0 + j ≤ 8) : ci i0 j (i + 1) = ci i0 j i ∧ 2 ^ i - 1 - runq i0 (ci i0 j i) + 2 ^ i = 2 ^ (i + 1) - 1 - runq i0 (ci i0 j (i + 1)) := ci_out' ⟨i0, h0⟩ ⟨j, hj⟩ ⟨i, hi⟩ h
theorem ci_end : ∀ i0, i0 < 8 → ∀ j, j < 9 → i0 + j ≤ 8 → ci i0 j 8 = j := by decide +kernel

def jj (a en l : Int) : Nat := if a % (2:Int)^(l - 3).toNat = 0 then jOf a en l else 0
theorem qOf_wide (a en l : Int) (h : 8 ≤ l) : qOf a en l = runq (i0Of a l) (jj a en l) := by
  unfold qOf jj
  rw [if_neg (by omega)]
  split
  · rfl
  · rw [runq_zero]
theorem jj_le (a en l : Int) (hi : i0Of a l < 8) : i0Of a l + jj a en l ≤ 8 := by
  unfold jj
  split
  · unfold jOf; omega
  · omega
/-- is part i taken? -/
theorem part_in (a en l P N : Int) (hl : 5 ≤ l) (hl2 : l ≤ 14) (hP : (2:Int)^(l - 3).toNat = P) (hN : (2:Int)^l.toNat = N) (ha : 0 ≤ a) (hae : a < en) (hen : en ≤ 262144) (i : Nat) (hi : i < 8) :
    (a ≤ baseOf a l + (i : Int) * P ∧ baseOf a l + (i : Int) * P + P ≤ en ∧ a % P = 0) ↔ (i0Of a l ≤ i ∧ i < i0Of a l + jj a en l) := by
  obtain ⟨g1, g2, g3, g4, g5, g6, g7⟩ := parts a l P N hl hl2 hP hN ha (by omega)
  unfold jj
  rw [hP]
  by_cases hm : a % P = 0
  · rw [if_pos hm]
    have hb : baseOf a l = a - a % N := by unfold baseOf; rw [hN]
    have g6' := g6 hm
    have hd0 : 0 ≤ (en - a) / P := Int.ediv_nonneg (by omega) (by omega)
    have e1 : (a ≤ baseOf a l + (i : Int) * P) ↔ i0Of a l ≤ i := by
      rw [hb, g6']
      constructor
      · intro h
        have : (i0Of a l : Int) * P ≤ (i : Int) * P := by omega
        have := Int.le_of_mul_le_mul_right this (by omega)
        omega
      · intro h
        have : (i0Of a l : Int) * P ≤ (i : Int) * P := Int.mul_le_mul_of_nonneg_right (by omega) (by omega)
        omega
    have e2 : i0Of a l ≤ i → ((baseOf a l + (i : Int) * P + P ≤ en) ↔ ((i - i0Of a l : Nat) : Int) < (en - a) / P) := by
      intro h
      rw [hb, g6']
      have e3 : ((i - i0Of a l : Nat) : Int) = (i : Int) - (i0Of a l : Int) := by omega
      have e4 : (((i : Int) - (i0Of a l : Int)) + 1) * P = (i : Int) * P - (i0Of a l : Int) * P + P := by rw [Int.add_mul, Int.sub_mul]; omega
      rw [e3]
      constructor
      · intro h
        have := Int.le_ediv_of_mul_le (c := P) (a := (i : Int) - (i0Of a l : Int) + 1) (b := en - a) (by omega) (by omega)
        omega
      · intro h
        have : (i : Int) - (i0Of a l : Int) + 1 ≤ (en - a) / P := by omega
        have := Int.mul_le_of_le_ediv (by omega) this
        omega
    have e5 : jOf a en l = min (8 - i0Of a l) ((en - a) / P).toNat := by unfold jOf; rw [hP]
    rw [e5, e1]
    constructor
    · rintro ⟨h1, h2, _⟩
      have := (e2 h1).1 h2
      omega
    · rintro ⟨h1, h2⟩
      exact ⟨h1, (e2 h1).2 (by omega), hm⟩
  · rw [if_neg hm]
    constructor
    · rintro ⟨_, _, h⟩
      exact absurd h hm
    · intro h
      omega
theorem div_mul_base (a N : Int) (h0 : 0 ≤ a) (hN : 0 < N) : a / N * N = a - a % N := by
  have := Int.mul_ediv_add_emod a N
  rw [Int.mul_comm]
  omega
end Go.Proofs.YtngdgogjlpjjpaeGreat

namespace Go.Proofs.YtngdgogjlpjjpaeGreat
open Go.RowKit
set_option linter.unusedVariables false

/-- WHAT l2Best GIVES. -/
def BePost (w : World) (b l c : Int) (q : Nat) (e : Ending) (w' : World) : Prop :=
  ∃ o : Int, e = .returned (.tuple #[.agg #[.int .i64 b, .int .i64 l, .int .i64 o, .bool false, .bool false, .bool false], .int .i64 c]) ∧ (0 < c → o = 255 - (q : Int)) ∧ Below w.heap.size w w'

theorem be_end (w W : World) (tmps : Array Value) (b l o c : Int) (q : Nat) (h6 : tmps[6]? = some (.pointer (some ⟨w.heap.size, 0, none⟩))) (h7 : tmps[7]? = some (.int .i64 c))
    (hz : Blk W w.heap.size #[.int .i64 b, .int .i64 l, .int .i64 o, .bool false, .bool false, .bool false] 158) (hB : Below w.heap.size w W) (ho : 0 < c → o = 255 - (q : Int)) :
    bodyPost Tryz.prog Tryz.f247 (BePost w b l c q) Exit.ret ⟨tmps, []⟩ W := by
  refine bodyPost_ret (v := .tuple #[.agg #[.int .i64 b, .int .i64 l, .int .i64 o, .bool false, .bool false, .bool false], .int .i64 c]) ?_ rfl ⟨o, rfl, ho, hB⟩
  obtain ⟨p1, p2, p3, p4, p5, p6, p7⟩ := hz.six'
  simp [results, Tryz.results247, go_sem, h6, h7, p1, p2, p3, p4, p5, p6]
/-- the result's cells, written -/
theorem be_set {w2 : World} {g : Nat} (hz : Blk w2 g #[.int .i64 0, .int .i64 0, .int .i64 0, .bool false, .bool false, .bool false] 158) (b l o : Int) :
    Blk ((((((w2.setCell ⟨g, 0, none⟩ (.int .i64 b)).setCell ⟨g, 1, none⟩ (.int .i64 l)).setCell ⟨g, 2, none⟩ (.int .i64 o)).setCell ⟨g, 3, none⟩ (.bool false)).setCell ⟨g, 4, none⟩ (.bool false)).setCell ⟨g, 5, none⟩ (.bool false)) g #[.int .i64 b, .int .i64 l, .int .i64 o, .bool false, .bool false, .bool false] 158 :=
  Blk.set (Blk.set (Blk.set (Blk.set (Blk.set (Blk.set hz 0 _) 1 _) 2 _) 3 _) 4 _) 5 _
theorem be_below {B : Nat} {w w2 : World} {g : Nat} (hg : B ≤ g) (h : Below B w w2) (b l o : Int) :
    Below B w ((((((w2.setCell ⟨g, 0, none⟩ (.int .i64 b)).setCell ⟨g, 1, none⟩ (.int .i64 l)).setCell ⟨g, 2, none⟩ (.int .i64 o)).setCell ⟨g, 3, none⟩ (.bool false)).setCell ⟨g, 4, none⟩ (.bool false)).setCell ⟨g, 5, none⟩ (.bool false)) :=
  (((((h.setCell hg _).setCell hg _).setCell hg _).setCell hg _).setCell hg _).setCell hg _

set_option maxHeartbeats 2000000 in
theorem l2Best_narrow (a s l : Int) (w : World) (hl : 5 ≤ l) (hl2 : l < 8) (ha : 0 ≤ a) (hs : 0 < s) (has : a + s ≤ 262144) :
    Calls Tryz.prog 247 #[.int .i64 l, .int .i64 a, .int .i64 s] w (BePost w (baseOf a l) l (cnt l (qOf a (a + s) l)) (qOf a (a + s) l)) := by
  obtain ⟨P, hP⟩ : ∃ P, (2:Int)^(l - 3).toNat = P := ⟨_, rfl⟩
  obtain ⟨N, hN⟩ : ∃ N, (2:Int)^l.toNat = N := ⟨_, rfl⟩
  obtain ⟨g1, g2, g3, g4, g5, g6, g7⟩ := parts a l P N hl (by omega) hP hN ha (by omega)
  obtain ⟨b0, b1, b2, b3, b4⟩ := base_ok a l N hl (by omega) hN ha (by omega)
  have hdm := div_mul_base a N ha (by omega)
  obtain ⟨b, hb⟩ : ∃ b, b = a - a % N := ⟨_, rfl⟩
  have hbo : baseOf a l = b := by unfold baseOf; rw [hN, hb]
  rw [← hb] at b0 b1 b2 hdm
  have HP2 := hide (fun w => l2Power_any l (by omega) (by omega) w)
  rw [hN] at HP2
  have hwf : (Lit.int .i64 b).wf = true := by simp [Lit.wf, IntKind.min, IntKind.max, IntKind.bits, IntKind.signed]; omega
  have HR := hide (fun w => sRegionOk_any b l 0 false false false w hwf)
  have hrok : rok b l 0 = true := by unfold rok; rw [hN]; simp; omega
  rw [hrok] at HR
  rw [hbo]
  have h8 : 8 * P ≤ 1024 := by
    have : l = 5 ∨ l = 6 ∨ l = 7 := by omega
    rcases this with rfl | rfl | rfl <;> (simp at hP; omega)
  have HE := hide (show ∀ c : Bool, (c = true ↔ (a = b ∧ N ≤ s)) → qOf a (a + s) l = (if c then 255 else 0) ∧ cnt l (qOf a (a + s) l) = (if c then N else 0) from by
    intro c hc
    have e : qOf a (a + s) l = (if c then 255 else 0) := by
      unfold qOf
      rw [if_pos hl2, hN]
      cases c
      · rw [if_neg (by simp at hc; omega)]; rfl
      · have := hc.1 rfl
        rw [if_pos (by omega)]; rfl
    refine ⟨e, ?_⟩
    rw [e]
    cases c
    · exact cnt_zero l
    · show cnt l 255 = N
      unfold cnt
      rw [hP, show popc 255 = 8 from rfl, g1]
      rfl)
  have hN1 : N ≤ 1024 := by omega
  have hN0 : 0 < N := by omega
  clear hP hN g1 g2 g3 g4 g5 g6 g7 hrok hbo h8 b2 b3 b4 hb hwf
  go_enter Tryz.func247, Tryz.ntmps247
  go_wp2_with fail
  refine (HP2.out _).mono ?_
  rintro e w1 ⟨rfl, rfl⟩
  go_wp2_with fail
  refine (HR.out _).mono ?_
  rintro e w2 ⟨rfl, hb2⟩
  have kz := ((Blk.new w #[.int .i64 0, .int .i64 0, .int .i64 0, .bool false, .bool false, .bool false] 158).alloc (.cells #[.int .i64 b, .int .i64 l, .int .i64 0, .bool false, .bool false, .bool false] 158)).below hb2
  have kr := (Blk.new (w.alloc (.cells #[.int .i64 0, .int .i64 0, .int .i64 0, .bool false, .bool false, .bool false] 158)) #[.int .i64 b, .int .i64 l, .int .i64 0, .bool false, .bool false, .bool false] 158).below hb2
  simp only [World.size_alloc] at kr
  have HB2 := hide ((((Below.refl w.heap.size w).alloc (Nat.le_refl _) (.cells #[.int .i64 0, .int .i64 0, .int .i64 0, .bool false, .bool false, .bool false] 158)).alloc (by simp) (.cells #[.int .i64 b, .int .i64 l, .int .i64 0, .bool false, .bool false, .bool false] 158)).trans (hb2.mono (by simp; omega)))
  obtain ⟨q1, q2, q3, q4, q5, q6, q7⟩ := kz.six'
  obtain ⟨p1, p2, p3, p4, p5, p6, p7⟩ := kr.six'
  have KZ := hide kz
  clear kz kr hb2
  by_cases hba : b = a
  · subst hba
    by_cases hNs : s < N
    · obtain ⟨x1, x2⟩ := HE.out false (by simp; omega)
      have X := hide (And.intro x1 x2)
      clear x1 x2 HE
      go_wp2_with fail
      rw [X.out.2, X.out.1]
      exact be_end w _ _ b l 0 0 0 rfl rfl (be_set KZ.out b l 0) (be_below (Nat.le_refl _) HB2.out b l 0) (fun h => absurd h (by omega))
    · obtain ⟨x1, x2⟩ := HE.out true (by simp; omega)
      have X := hide (And.intro x1 x2)
      clear x1 x2 HE
      go_wp2_with fail
      rw [X.out.2, X.out.1]
      exact be_end w _ _ b l 0 N 255 rfl rfl (be_set KZ.out b l 0) (be_below (Nat.le_refl _) HB2.out b l 0) (fun _ => rfl)
  · obtain ⟨x1, x2⟩ := HE.out false (by simp; omega)
    have X := hide (And.intro x1 x2)
    have hba' : (b != a) = true := by simpa using hba
    clear x1 x2 HE hba
    go_wp2_with fail
    rw [X.out.2, X.out.1]
    exact be_end w _ _ b l 0 0 0 rfl rfl (be_set KZ.out b l 0) (be_below (Nat.le_refl _) HB2.out b l 0) (fun h => absurd h (by omega))
end Go.Proofs.YtngdgogjlpjjpaeGreat
