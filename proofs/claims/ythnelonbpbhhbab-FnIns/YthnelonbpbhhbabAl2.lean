import Derived.Test.YthnelonbpbhhbabAl1
import Derived.Test.YthnelonbpbhhbabRg
namespace Go.Proofs.Ythnelonbpbhhbab
open Go.RowKit
set_option linter.unusedVariables false

def gok (g : Rg) : Bool := rok g.1 g.2.1 g.2.2.1
def ghas (g : Rg) (a : Int) : Bool := hs g.1 g.2.1 g.2.2.1 a
def glets (g : Rg) (k : Int) : Bool := lets g.2.2.2.1 g.2.2.2.2.1 g.2.2.2.2.2 k
/-- THE LAST REGION THAT HAS THE ADDRESS, of the first k. -/
def oneTo (rs : List Rg) (a k : Int) : Nat → Bool
  | 0 => false
  | j + 1 => if ghas (rs.getD j z6) a then glets (rs.getD j z6) k else oneTo rs a k j

set_option maxHeartbeats 1000000 in
theorem l2One_some (b off n cap : Nat) (rs : List Rg) (a k : Int) (w : World) (h : RS w (some ⟨b, off, none⟩) n cap rs) (hok : ∀ g ∈ rs, gok g = true) (hk : k = 1 ∨ k = 2 ∨ k = 3) (hn : n ≤ 8) :
    Calls Try.prog 63 #[.slice (some ⟨b, off, none⟩) n cap, .int .i64 a, .int .i64 k] w fun e w' => e = .returned (.bool (oneTo rs a k n)) ∧ Below w.heap.size w w' := by
  have hl := h.1
  go_enter Try.func63, Try.ntmps63
  go_wp2
  go_loopw [7] (fun i wr => ∃ (j : Nat) (p : Int), j ≤ n ∧ p + 1 = j ∧ i = .int .i64 p ∧ oneTo rs a k j = oneTo rs a k n ∧ Below w.heap.size w wr) (fun i _ => (intOf i + 1).toNat)
  case atStart => exact ⟨n, (n : Int) - 1, Nat.le_refl _, by omega, rfl, rfl, Below.refl _ _⟩
  case round =>
    obtain ⟨j, p, hj, hp, rfl, hone, hB⟩ := hrel
    by_cases h0 : j = 0
    · have hp' : p = -1 := by omega
      subst hp' h0
      have HO := hide hone
      clear hp hone
      have HK := hide hk
      clear hk
      go_wp2
      go_ret
      exact ⟨ret_bool (by rw [← HO.out]; rfl), hB⟩
    · obtain ⟨i, rfl⟩ : ∃ i, j = i + 1 := ⟨j - 1, by omega⟩
      have hp' : p = (i : Int) := by omega
      subst hp'
      have hi0 : (0:Int) ≤ (i:Int) := by omega
      have hin : (i:Int) < (n:Int) := by omega
      have hat := (h.below hB).at i (by omega)
      have hg := hok (rs.getD i z6) (by simp [List.getD_eq_getElem?_getD, show i < rs.length by omega])
      have hstep : oneTo rs a k (i + 1) = if ghas (rs.getD i z6) a then glets (rs.getD i z6) k else oneTo rs a k i := rfl
      rw [hone] at hstep
      have HK := hide hk
      clear hp hone hk h0
      generalize rs.getD i z6 = g at *
      obtain ⟨g1, g2, g3, g4, g5, g6⟩ := g
      have HS := hide hstep
      clear hstep
      have hga : rok g1 g2 g3 = true := hg
      clear hg
      have q1 := hat.1
      have q2 := hat.2.1
      have q3 := hat.2.2.1
      have q4 := hat.2.2.2.1
      have q5 := hat.2.2.2.2.1
      have q6 := hat.2.2.2.2.2
      simp only at q1 q2 q3 q4 q5 q6
      go_wp2_with fail
      refine (l2Has_any g1 g2 g3 a g4 g5 g6 _ hga).mono ?_
      rintro e w1 ⟨rfl, hb1⟩
      have hB1 := hB.trans (hb1.mono hB.size)
      cases hh : hs g1 g2 g3 a
      · have HH := hide hh
        clear hh
        go_wp2
        go_roundw
        case rel => exact ⟨i, (i:Int) - 1, by omega, by omega, by go_num, by rw [HS.out]; rw [show ghas (g1, g2, g3, g4, g5, g6) a = false from HH.out]; rfl, hB1⟩
        case measure => simp [intOf]
      · have HH := hide hh
        clear hh
        have hat1 := hat.below hb1
        have q1 := hat1.1
        have q2 := hat1.2.1
        have q3 := hat1.2.2.1
        have q4 := hat1.2.2.2.1
        have q5 := hat1.2.2.2.2.1
        have q6 := hat1.2.2.2.2.2
        simp only at q1 q2 q3 q4 q5 q6
        go_wp2_with fail
        refine (l2Lets_any g1 g2 g3 k g4 g5 g6 _ HK.out).mono ?_
        rintro e w2 ⟨rfl, hb2⟩
        go_wp2
        go_ret
        exact ⟨ret_bool (by rw [HS.out]; rw [show ghas (g1, g2, g3, g4, g5, g6) a = true from HH.out]; rfl), hB1.trans (hb2.mono hB1.size)⟩

set_option maxHeartbeats 1000000 in
theorem l2One_nil (x : Option Addr) (cap : Nat) (a k : Int) (w : World) :
    Calls Try.prog 63 #[.slice x 0 cap, .int .i64 a, .int .i64 k] w fun e w' => e = .returned (.bool false) ∧ Below w.heap.size w w' := by
  go_enter Try.func63, Try.ntmps63
  go_wp2
  go_loop [7] (fun i => i = .int .i64 (-1)) (fun _ => 0)
  case atStart => rfl
  case round =>
    obtain rfl := hrel
    go_wp2
    go_ret
    exact ⟨rfl, Below.refl _ _⟩

theorem l2One_any (x : Option Addr) (n cap : Nat) (rs : List Rg) (a k : Int) (w : World) (h : RS w x n cap rs) (hok : ∀ g ∈ rs, gok g = true) (hk : k = 1 ∨ k = 2 ∨ k = 3) (hn : n ≤ 8) :
    Calls Try.prog 63 #[.slice x n cap, .int .i64 a, .int .i64 k] w fun e w' => e = .returned (.bool (oneTo rs a k n)) ∧ Below w.heap.size w w' := by
  by_cases h0 : n = 0
  · subst h0
    exact l2One_nil x cap a k w
  · obtain ⟨b, off, rfl⟩ := h.some h0
    exact l2One_some b off n cap rs a k w h hok hk hn

set_option maxHeartbeats 1000000 in
theorem addr_some (b off n cap : Nat) (rs : List Rg) (a k : Int) (w : World) (h : RS w (some ⟨b, off, none⟩) n cap rs) (hok : ∀ g ∈ rs, gok g = true) (hk : wfi a) (hn : n ≤ 8) :
    Calls Try.prog 47 #[.slice (some ⟨b, off, none⟩) n cap, .int .i64 a, .int .i64 k] w fun e w' => e = .returned (.bool (oneTo rs a k n)) ∧ Below w.heap.size w w' := by
  have hl := h.1
  go_enter Try.func47, Try.ntmps47
  go_wp2
  go_loopw [7] (fun i wr => ∃ (j : Nat) (p : Int), j ≤ n ∧ p + 1 = j ∧ i = .int .i64 p ∧ oneTo rs a k j = oneTo rs a k n ∧ Below w.heap.size w wr) (fun i _ => (intOf i + 1).toNat)
  case atStart => exact ⟨n, (n : Int) - 1, Nat.le_refl _, by omega, rfl, rfl, Below.refl _ _⟩
  case round =>
    obtain ⟨j, p, hj, hp, rfl, hone, hB⟩ := hrel
    by_cases h0 : j = 0
    · have hp' : p = -1 := by omega
      subst hp' h0
      have HO := hide hone
      clear hp hone
      have HK := hide hk
      clear hk
      go_wp2
      go_ret
      exact ⟨ret_bool (by rw [← HO.out]; rfl), hB⟩
    · obtain ⟨i, rfl⟩ : ∃ i, j = i + 1 := ⟨j - 1, by omega⟩
      have hp' : p = (i : Int) := by omega
      subst hp'
      have hi0 : (0:Int) ≤ (i:Int) := by omega
      have hin : (i:Int) < (n:Int) := by omega
      have hat := (h.below hB).at i (by omega)
      have hg := hok (rs.getD i z6) (by simp [List.getD_eq_getElem?_getD, show i < rs.length by omega])
      have hstep : oneTo rs a k (i + 1) = if ghas (rs.getD i z6) a then glets (rs.getD i z6) k else oneTo rs a k i := rfl
      rw [hone] at hstep
      have HK := hide hk
      clear hp hone hk h0
      generalize rs.getD i z6 = g at *
      obtain ⟨g1, g2, g3, g4, g5, g6⟩ := g
      have HS := hide hstep
      clear hstep
      have hga : rok g1 g2 g3 = true := hg
      clear hg
      have q1 := hat.1
      have q2 := hat.2.1
      have q3 := hat.2.2.1
      have q4 := hat.2.2.2.1
      have q5 := hat.2.2.2.2.1
      have q6 := hat.2.2.2.2.2
      simp only at q1 q2 q3 q4 q5 q6
      go_wp2_with fail
      refine (regionHas_any g1 g2 g3 a g4 g5 g6 _ hga HK.out).mono ?_
      rintro e w1 ⟨rfl, hb1⟩
      have hB1 := hB.trans (hb1.mono hB.size)
      cases hh : hs g1 g2 g3 a
      · have HH := hide hh
        clear hh
        go_wp2
        go_roundw
        case rel => exact ⟨i, (i:Int) - 1, by omega, by omega, by go_num, by rw [HS.out]; rw [show ghas (g1, g2, g3, g4, g5, g6) a = false from HH.out]; rfl, hB1⟩
        case measure => simp [intOf]
      · have HH := hide hh
        clear hh
        have hat1 := hat.below hb1
        have q1 := hat1.1
        have q2 := hat1.2.1
        have q3 := hat1.2.2.1
        have q4 := hat1.2.2.2.1
        have q5 := hat1.2.2.2.2.1
        have q6 := hat1.2.2.2.2.2
        simp only at q1 q2 q3 q4 q5 q6
        go_wp2_with fail
        refine (regionAllows_any g1 g2 g3 k g4 g5 g6 _).mono ?_
        rintro e w2 ⟨rfl, hb2⟩
        go_wp2
        go_ret
        exact ⟨ret_bool (by rw [HS.out]; rw [show ghas (g1, g2, g3, g4, g5, g6) a = true from HH.out]; rfl), hB1.trans (hb2.mono hB1.size)⟩

set_option maxHeartbeats 1000000 in
theorem addr_nil (x : Option Addr) (cap : Nat) (a k : Int) (w : World) :
    Calls Try.prog 47 #[.slice x 0 cap, .int .i64 a, .int .i64 k] w fun e w' => e = .returned (.bool false) ∧ Below w.heap.size w w' := by
  go_enter Try.func47, Try.ntmps47
  go_wp2
  go_loop [7] (fun i => i = .int .i64 (-1)) (fun _ => 0)
  case atStart => rfl
  case round =>
    obtain rfl := hrel
    go_wp2
    go_ret
    exact ⟨rfl, Below.refl _ _⟩

theorem addr_any (x : Option Addr) (n cap : Nat) (rs : List Rg) (a k : Int) (w : World) (h : RS w x n cap rs) (hok : ∀ g ∈ rs, gok g = true) (hk : wfi a) (hn : n ≤ 8) :
    Calls Try.prog 47 #[.slice x n cap, .int .i64 a, .int .i64 k] w fun e w' => e = .returned (.bool (oneTo rs a k n)) ∧ Below w.heap.size w w' := by
  by_cases h0 : n = 0
  · subst h0
    exact addr_nil x cap a k w
  · obtain ⟨b, off, rfl⟩ := h.some h0
    exact addr_some b off n cap rs a k w h hok hk hn

end Go.Proofs.Ythnelonbpbhhbab
