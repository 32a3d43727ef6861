import Derived.Test.YtngdgogjlpjjpacK04
namespace Go.Proofs.Ytngdgogjlpjjpac
open Go.RowKit
set_option linter.unusedVariables false

def wd (s : Int) : Bool := decide (s = 1 ∨ s = 2 ∨ s = 4)

set_option maxHeartbeats 400000 in
theorem l1Size_any (s : Int) (w : World) :
    Calls Try.prog 43 #[.int .i64 s] w fun e w' => e = .returned (.bool (wd s)) ∧ w = w' := by
  by_cases h1 : s = 1
  · subst h1
    go_enter Try.func43, Try.ntmps43
    go_wp2
    go_ret
    exact ⟨rfl, rfl⟩
  · by_cases h2 : s = 2
    · subst h2
      go_enter Try.func43, Try.ntmps43
      go_wp2
      go_ret
      exact ⟨rfl, rfl⟩
    · have hf : Hid (wd s = (s == 4)) := by show _ = _; unfold wd; rw [Bool.eq_iff_iff]; simp; omega
      have g1 : (s == 1) = false := by simpa using h1
      have g2 : (s == 2) = false := by simpa using h2
      clear h1 h2
      go_enter Try.func43, Try.ntmps43
      go_wp2
      go_ret
      exact ⟨ret_bool hf.out.symm, rfl⟩

set_option maxHeartbeats 400000 in
theorem isWidth_any (s : Int) (w : World) :
    Calls Try.prog 112 #[.int .i64 s] w fun e w' => e = .returned (.bool (wd s)) ∧ w = w' := by
  by_cases h1 : s = 1
  · subst h1
    go_enter Try.func112, Try.ntmps112
    go_wp2
    go_ret
    exact ⟨rfl, rfl⟩
  · by_cases h2 : s = 2
    · subst h2
      go_enter Try.func112, Try.ntmps112
      go_wp2
      go_ret
      exact ⟨rfl, rfl⟩
    · have hf : Hid (wd s = (s == 4)) := by show _ = _; unfold wd; rw [Bool.eq_iff_iff]; simp; omega
      have g1 : (s == 1) = false := by simpa using h1
      have g2 : (s == 2) = false := by simpa using h2
      clear h1 h2
      go_enter Try.func112, Try.ntmps112
      go_wp2
      go_ret
      exact ⟨ret_bool hf.out.symm, rfl⟩

def ins (p s f : Int) (n : Nat) : Bool := decide (f ≤ p ∧ p ≤ f + n - s)

set_option maxHeartbeats 400000 in
theorem l1Inside_any (p s f : Int) (n : Nat) (w : World) (hs0 : 1 ≤ s) (hs : s ≤ 4) (hf0 : 0 ≤ f) (hf : f ≤ 65536) (hn : n ≤ 16384) :
    Calls Try.prog 45 #[.int .i64 p, .int .i64 s, .int .i64 f, .int .i64 n] w fun e w' => e = .returned (.bool (ins p s f n)) ∧ w = w' := by
  by_cases h1 : f ≤ p
  · have hf : Hid (ins p s f n = decide (p ≤ f + n - s)) := by show _ = _; unfold ins; rw [Bool.eq_iff_iff]; simp; omega
    go_enter Try.func45, Try.ntmps45
    go_wp2
    go_ret
    exact ⟨ret_bool hf.out.symm, rfl⟩
  · have hf : Hid (ins p s f n = false) := by show _ = _; unfold ins; simp; omega
    go_enter Try.func45, Try.ntmps45
    go_wp2
    go_ret
    exact ⟨ret_bool hf.out.symm, rfl⟩

set_option maxHeartbeats 400000 in
theorem holds_any (a : Option Addr) (n cap : Nat) (p s f : Int) (w : World) (hp : p ≤ 9223372036854775807) (hs0 : 1 ≤ s) (hs : s ≤ 4) (hf0 : 0 ≤ f) (hf : f ≤ 65536) (hn : n ≤ 16384) :
    Calls Try.prog 52 #[.slice a n cap, .int .i64 f, .int .i64 p, .int .i64 s] w fun e w' => e = .returned (.bool (ins p s f n)) ∧ w = w' := by
  by_cases h1 : f ≤ p
  · have hf : Hid (ins p s f n = decide (p - f ≤ n - s)) := by show _ = _; unfold ins; rw [Bool.eq_iff_iff]; simp; omega
    go_enter Try.func52, Try.ntmps52
    go_wp2
    go_ret
    exact ⟨ret_bool hf.out.symm, rfl⟩
  · have hf : Hid (ins p s f n = false) := by show _ = _; unfold ins; simp; omega
    go_enter Try.func52, Try.ntmps52
    go_wp2
    go_ret
    exact ⟨ret_bool hf.out.symm, rfl⟩

/-- THE NUMBER OF BYTES, the least first. -/
def low : List Int → Int
  | [] => 0
  | z :: zs => low zs * 256 + z

theorem low_range : ∀ (zs : List Int), (∀ z ∈ zs, 0 ≤ z ∧ z ≤ 255) → 0 ≤ low zs ∧ low zs + 1 ≤ (256:Int)^zs.length
  | [], _ => by simp [low]
  | z :: zs, h => by
    have ih := low_range zs (fun x hx => h x (by simp [hx]))
    have hz := h z (by simp)
    simp only [low, List.length_cons, Int.pow_succ]
    omega
theorem low_small (zs : List Int) (h : ∀ z ∈ zs, 0 ≤ z ∧ z ≤ 255) (hl : zs.length ≤ 4) : 0 ≤ low zs ∧ low zs ≤ 4294967295 := by
  have h1 := low_range zs h
  have h2 : (256:Nat)^zs.length ≤ 256^4 := Nat.pow_le_pow_right (by omega) hl
  have h3 : ((256^zs.length : Nat) : Int) = (256:Int)^zs.length := by simp
  have h4 : (256:Nat)^4 = 4294967296 := rfl
  omega
theorem low_drop (zs : List Int) (j : Nat) (h : j < zs.length) : low (zs.drop j) = low (zs.drop (j + 1)) * 256 + zs.getD j 0 := by
  rw [List.drop_eq_getElem_cons h]
  simp [low, List.getD_eq_getElem?_getD, h]

set_option maxHeartbeats 1000000 in
theorem l1Low_any (b off n cap : Nat) (zs : List Int) (w : World) (h : BS w (some ⟨b, off, none⟩) n cap zs) (hn : n ≤ 4) :
    Calls Try.prog 50 #[.slice (some ⟨b, off, none⟩) n cap] w fun e w' => e = .returned (.int .i64 (low zs)) ∧ w = w' := by
  obtain ⟨hl, hmx, hr, hc, _⟩ := h
  have hd : ∀ i, i < n → w.cell? ⟨b, off + i, none⟩ = some (.int .u8 (zs.getD i 0)) := by
    intro i hi
    obtain ⟨b', off', e, hd⟩ := hc (by omega)
    simp at e
    obtain ⟨rfl, rfl⟩ := e
    exact hd i hi
  clear hc
  go_enter Try.func50, Try.ntmps50
  go_wp2
  go_loop [3, 4] (fun v i => ∃ (k : Nat) (p : Int), k ≤ n ∧ p + 1 = k ∧ i = .int .i64 p ∧ v = .int .i64 (low (zs.drop k))) (fun _ i => (intOf i + 1).toNat)
  case atStart => exact ⟨n, (n : Int) - 1, Nat.le_refl _, by omega, rfl, by rw [List.drop_of_length_le (by omega)]; rfl⟩
  case round =>
    obtain ⟨k, p, hk, hp, rfl, rfl⟩ := hrel
    by_cases h0 : k = 0
    · have hp' : p = -1 := by omega
      subst hp' h0
      clear hp
      have hfin : Hid (low (List.drop 0 zs) = low zs) := by show _ = _; rw [List.drop_zero]
      generalize low (List.drop 0 zs) = L at *
      go_wp2
      go_ret
      exact ⟨ret_int hfin.out, rfl⟩
    · obtain ⟨j, rfl⟩ : ∃ j, k = j + 1 := ⟨k - 1, by omega⟩
      have hp' : p = (j : Int) := by omega
      subst hp'
      have hj : (0:Int) ≤ (j:Int) := by omega
      have hjn : (j:Int) < (n:Int) := by omega
      have hst := low_drop zs j (by omega)
      have hL := low_small (zs.drop (j + 1)) (fun z hz => hr z (List.mem_of_mem_drop hz)) (by simp; omega)
      have hL3 : low (zs.drop (j + 1)) ≤ 4294967295 := hL.2
      have hcj := hd j (by omega)
      have hz0 : 0 ≤ zs.getD j 0 ∧ zs.getD j 0 ≤ 255 := by
        have := hr zs[j] (List.getElem_mem (by omega))
        simpa [List.getD_eq_getElem?_getD, show j < zs.length by omega] using this
      have HS := hide hst
      clear hst hp hd h0
      generalize low (zs.drop (j + 1)) = L at *
      generalize zs.getD j 0 = z at *
      obtain ⟨hL1, hL2⟩ := hL
      obtain ⟨hz1, hz2⟩ := hz0
      go_wp2
      go_round
      case rel => exact ⟨j, (j:Int) - 1, by omega, by omega, by go_num, by rw [HS.out]⟩
      case measure => simp [intOf]
end Go.Proofs.Ytngdgogjlpjjpac
