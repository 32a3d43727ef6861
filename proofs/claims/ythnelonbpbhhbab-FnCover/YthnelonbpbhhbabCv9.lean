import Derived.Test.YthnelonbpbhhbabCv8
namespace Go.Proofs.Ythnelonbpbhhbab
open Go.RowKit
set_option linter.unusedVariables false

/-- WHAT l2Best GIVES. -/
def BePost (w : World) (b l c : Int) (q : Nat) (e : Ending) (w' : World) : Prop :=
  ∃ o : Int, e = .returned (.tuple #[.agg #[.int .i64 b, .int .i64 l, .int .i64 o, .bool false, .bool false, .bool false], .int .i64 c]) ∧ (0 < c → o = 255 - (q : Int)) ∧ Below w.heap.size w w'

theorem be_end (w W : World) (tmps : Array Value) (b l o c : Int) (q : Nat) (h6 : tmps[6]? = some (.pointer (some ⟨w.heap.size, 0, none⟩))) (h7 : tmps[7]? = some (.int .i64 c))
    (hz : Blk W w.heap.size #[.int .i64 b, .int .i64 l, .int .i64 o, .bool false, .bool false, .bool false] 30) (hB : Below w.heap.size w W) (ho : 0 < c → o = 255 - (q : Int)) :
    bodyPost Try.prog Try.f39 (BePost w b l c q) Exit.ret ⟨tmps, []⟩ W := by
  refine bodyPost_ret (v := .tuple #[.agg #[.int .i64 b, .int .i64 l, .int .i64 o, .bool false, .bool false, .bool false], .int .i64 c]) ?_ rfl ⟨o, rfl, ho, hB⟩
  obtain ⟨p1, p2, p3, p4, p5, p6, p7⟩ := hz.six'
  simp [results, Try.results39, go_sem, h6, h7, p1, p2, p3, p4, p5, p6]
/-- the result's cells, written -/
theorem be_set {w2 : World} {g : Nat} (hz : Blk w2 g #[.int .i64 0, .int .i64 0, .int .i64 0, .bool false, .bool false, .bool false] 30) (b l o : Int) :
    Blk ((((((w2.setCell ⟨g, 0, none⟩ (.int .i64 b)).setCell ⟨g, 1, none⟩ (.int .i64 l)).setCell ⟨g, 2, none⟩ (.int .i64 o)).setCell ⟨g, 3, none⟩ (.bool false)).setCell ⟨g, 4, none⟩ (.bool false)).setCell ⟨g, 5, none⟩ (.bool false)) g #[.int .i64 b, .int .i64 l, .int .i64 o, .bool false, .bool false, .bool false] 30 :=
  Blk.set (Blk.set (Blk.set (Blk.set (Blk.set (Blk.set hz 0 _) 1 _) 2 _) 3 _) 4 _) 5 _
theorem be_below {B : Nat} {w w2 : World} {g : Nat} (hg : B ≤ g) (h : Below B w w2) (b l o : Int) :
    Below B w ((((((w2.setCell ⟨g, 0, none⟩ (.int .i64 b)).setCell ⟨g, 1, none⟩ (.int .i64 l)).setCell ⟨g, 2, none⟩ (.int .i64 o)).setCell ⟨g, 3, none⟩ (.bool false)).setCell ⟨g, 4, none⟩ (.bool false)).setCell ⟨g, 5, none⟩ (.bool false)) :=
  (((((h.setCell hg _).setCell hg _).setCell hg _).setCell hg _).setCell hg _).setCell hg _

set_option maxHeartbeats 2000000 in
theorem l2Best_narrow (a s l : Int) (w : World) (hl : 5 ≤ l) (hl2 : l < 8) (ha : 0 ≤ a) (hs : 0 < s) (has : a + s ≤ 262144) :
    Calls Try.prog 39 #[.int .i64 l, .int .i64 a, .int .i64 s] w (BePost w (baseOf a l) l (cnt l (qOf a (a + s) l)) (qOf a (a + s) l)) := by
  obtain ⟨P, hP⟩ : ∃ P, (2:Int)^(l - 3).toNat = P := ⟨_, rfl⟩
  obtain ⟨N, hN⟩ : ∃ N, (2:Int)^l.toNat = N := ⟨_, rfl⟩
  obtain ⟨g1, g2, g3, g4, g5, g6, g7⟩ := parts a l P N hl (by omega) hP hN ha (by omega)
  obtain ⟨b0, b1, b2, b3, b4⟩ := base_ok a l N hl (by omega) hN ha (by omega)
  have hdm := div_mul_base a N ha (by omega)
  obtain ⟨b, hb⟩ : ∃ b, b = a - a % N := ⟨_, rfl⟩
  have hbo : baseOf a l = b := by unfold baseOf; rw [hN, hb]
  rw [← hb] at b0 b1 b2 hdm
  have HP2 := hide (fun w => l2Power_any l (by omega) (by omega) w)
  rw [hN] at HP2
  have hwf : (Lit.int .i64 b).wf = true := by simp [Lit.wf, IntKind.min, IntKind.max, IntKind.bits, IntKind.signed]; omega
  have HR := hide (fun w => sRegionOk_any b l 0 false false false w hwf)
  have hrok : rok b l 0 = true := by unfold rok; rw [hN]; simp; omega
  rw [hrok] at HR
  rw [hbo]
  have h8 : 8 * P ≤ 1024 := by
    have : l = 5 ∨ l = 6 ∨ l = 7 := by omega
    rcases this with rfl | rfl | rfl <;> (simp at hP; omega)
  have HE := hide (show ∀ c : Bool, (c = true ↔ (a = b ∧ N ≤ s)) → qOf a (a + s) l = (if c then 255 else 0) ∧ cnt l (qOf a (a + s) l) = (if c then N else 0) from by
    intro c hc
    have e : qOf a (a + s) l = (if c then 255 else 0) := by
      unfold qOf
      rw [if_pos hl2, hN]
      cases c
      · rw [if_neg (by simp at hc; omega)]; rfl
      · have := hc.1 rfl
        rw [if_pos (by omega)]; rfl
    refine ⟨e, ?_⟩
    rw [e]
    cases c
    · exact cnt_zero l
    · show cnt l 255 = N
      unfold cnt
      rw [hP, show popc 255 = 8 from rfl, g1]
      rfl)
  have hN1 : N ≤ 1024 := by omega
  have hN0 : 0 < N := by omega
  clear hP hN g1 g2 g3 g4 g5 g6 g7 hrok hbo h8 b2 b3 b4 hb hwf
  go_enter Try.func39, Try.ntmps39
  go_wp2_with fail
  refine (HP2.out _).mono ?_
  rintro e w1 ⟨rfl, rfl⟩
  go_wp2_with fail
  refine (HR.out _).mono ?_
  rintro e w2 ⟨rfl, hb2⟩
  have kz := ((Blk.new w #[.int .i64 0, .int .i64 0, .int .i64 0, .bool false, .bool false, .bool false] 30).alloc (.cells #[.int .i64 b, .int .i64 l, .int .i64 0, .bool false, .bool false, .bool false] 30)).below hb2
  have kr := (Blk.new (w.alloc (.cells #[.int .i64 0, .int .i64 0, .int .i64 0, .bool false, .bool false, .bool false] 30)) #[.int .i64 b, .int .i64 l, .int .i64 0, .bool false, .bool false, .bool false] 30).below hb2
  simp only [World.size_alloc] at kr
  have HB2 := hide ((((Below.refl w.heap.size w).alloc (Nat.le_refl _) (.cells #[.int .i64 0, .int .i64 0, .int .i64 0, .bool false, .bool false, .bool false] 30)).alloc (by simp) (.cells #[.int .i64 b, .int .i64 l, .int .i64 0, .bool false, .bool false, .bool false] 30)).trans (hb2.mono (by simp; omega)))
  obtain ⟨q1, q2, q3, q4, q5, q6, q7⟩ := kz.six'
  obtain ⟨p1, p2, p3, p4, p5, p6, p7⟩ := kr.six'
  have KZ := hide kz
  clear kz kr hb2
  by_cases hba : b = a
  · subst hba
    by_cases hNs : s < N
    · obtain ⟨x1, x2⟩ := HE.out false (by simp; omega)
      have X := hide (And.intro x1 x2)
      clear x1 x2 HE
      go_wp2_with fail
      rw [X.out.2, X.out.1]
      exact be_end w _ _ b l 0 0 0 rfl rfl (be_set KZ.out b l 0) (be_below (Nat.le_refl _) HB2.out b l 0) (fun h => absurd h (by omega))
    · obtain ⟨x1, x2⟩ := HE.out true (by simp; omega)
      have X := hide (And.intro x1 x2)
      clear x1 x2 HE
      go_wp2_with fail
      rw [X.out.2, X.out.1]
      exact be_end w _ _ b l 0 N 255 rfl rfl (be_set KZ.out b l 0) (be_below (Nat.le_refl _) HB2.out b l 0) (fun _ => rfl)
  · obtain ⟨x1, x2⟩ := HE.out false (by simp; omega)
    have X := hide (And.intro x1 x2)
    have hba' : (b != a) = true := by simpa using hba
    clear x1 x2 HE hba
    go_wp2_with fail
    rw [X.out.2, X.out.1]
    exact be_end w _ _ b l 0 0 0 rfl rfl (be_set KZ.out b l 0) (be_below (Nat.le_refl _) HB2.out b l 0) (fun h => absurd h (by omega))
end Go.Proofs.Ythnelonbpbhhbab
