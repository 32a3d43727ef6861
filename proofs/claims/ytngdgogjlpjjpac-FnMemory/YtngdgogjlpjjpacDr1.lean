import Derived.Test.YtngdgogjlpjjpacRd5
import Derived.Test.YtngdgogjlpjjpacTurn
namespace Go.Proofs.Ytngdgogjlpjjpac
open Go.RowKit
set_option linter.unusedVariables false

/-- THE READER OF THE DRAWS at block r, behind k reads. -/
structure Rdr (W : World) (r : Nat) (a : Option Addr) (n c : Nat) (zs : List Int) (k : Nat) : Prop where
  blk : Blk W r #[.slice a n c, .int .i64 ((min k n : Nat) : Int)] 126
  bs : BS W a n c zs
  small : n ≤ 1000
  far : n ≠ 0 → ∀ b off, a = some ⟨b, off, none⟩ → b ≠ r
theorem rdr_below {W W' : World} {r : Nat} {a : Option Addr} {n c : Nat} {zs : List Int} {k : Nat} (h : Rdr W r a n c zs k) (hb : Below W.heap.size W W') : Rdr W' r a n c zs k := ⟨h.blk.below hb, h.bs.below hb, h.small, h.far⟩
theorem Blk.two {w : World} {g : Nat} {a b : Value} {t : TypeId} (h : Blk w g #[a, b] t) : w.cell? ⟨g, 0, none⟩ = some a ∧ w.cell? ⟨g, 1, none⟩ = some b ∧ ∀ i, w.frozen? ⟨g, i, none⟩ = false :=
  ⟨by rw [h.cell]; rfl, by rw [h.cell]; rfl, fun i => h.frozen i⟩

theorem turn_bs' {S : Nat → Prop} {w w' : World} {a : Option Addr} {n cap : Nat} {zs : List Int} (ht : Turn S w w') (h : BS w a n cap zs) (hk : n ≠ 0 → ∀ k, S k → ∀ b off, a = some ⟨b, off, none⟩ → b ≠ k) : BS w' a n cap zs := by
  by_cases hn : n = 0
  · exact ⟨h.1, h.2.1, h.2.2.1, fun e => absurd hn e, h.2.2.2.2⟩
  · exact turn_bs ht h (hk hn)
theorem turn_set (w : World) (r i : Nat) (v : Value) : Turn (fun j => j = r) w (w.setCell ⟨r, i, none⟩ v) := ⟨rfl, rfl, rfl, by rw [size_setCell]; exact Nat.le_refl _, fun j hj hn => heap_setCell_other _ _ _ _ hn⟩

set_option maxHeartbeats 1000000 in
theorem l1Open_any (a : Option Addr) (n c n' : Nat) (zs : List Int) (w : World) (h : BS w a n c zs) (hn' : n' = min n 1000) :
    Calls Try.prog 38 #[.slice a n c] w fun e w' => e = .returned (.pointer (some ⟨w.heap.size, 0, none⟩)) ∧ Rdr w' w.heap.size a n' c (zs.take 1000) 0 ∧ Below w.heap.size w w' := by
  have hm := h.2.1
  unfold maxLen at hm
  have hl := h.1
  have hcap := h.2.2.2.2
  have hB : ∀ o, Below w.heap.size w (w.alloc o) := fun o => (Below.refl _ _).alloc (Nat.le_refl _) _
  have hfar : n ≠ 0 → ∀ b off, a = some ⟨b, off, none⟩ → b < w.heap.size := by
    intro hn b off e
    subst e
    exact World.block_lt_of_cell? w _ (h.at 0 (by omega))
  have HFAR := hide hfar
  clear hfar
  by_cases hn : (1000 : Int) < (n : Int)
  · obtain ⟨b, off, rfl⟩ := h.some (by omega)
    have h' := (h.take 1000 (by omega))
    have hn1 : n' = 1000 := by omega
    subst hn1
    clear hn'
    go_enter Try.func38, Try.ntmps38
    go_wp2
    go_ret
    exact ⟨rfl, ⟨Blk.new w _ _, h'.below (hB _), Nat.le_refl _, fun _ b' off' e => by have := HFAR.out (by omega) b' off' e; omega⟩, hB _⟩
  · have ht : zs.take 1000 = zs := List.take_of_length_le (by omega)
    rw [ht]
    have hn1 : n' = n := by omega
    subst hn1
    clear hn' ht
    have HB := hide hB
    have H := hide h
    clear hB h
    go_enter Try.func38, Try.ntmps38
    go_wp2
    go_ret
    exact ⟨rfl, ⟨by rw [Nat.zero_min]; exact Blk.new w _ _, H.out.below (HB.out _), by omega, fun h0 b' off' e => by have := HFAR.out h0 b' off' e; omega⟩, HB.out _⟩

set_option maxHeartbeats 1000000 in
theorem next_any (r : Nat) (a : Option Addr) (n c : Nat) (zs : List Int) (k : Nat) (w : World) (h : Rdr w r a n c zs k) :
    Calls Try.prog 41 #[.pointer (some ⟨r, 0, none⟩)] w fun e w' => e = .returned (.int .i64 (zs.getD k 0)) ∧ Rdr w' r a n c zs (k + 1) ∧ Turn (fun j => j = r) w w' := by
  obtain ⟨q1, q2, q3⟩ := h.blk.two
  have hs := h.small
  have hl := h.bs.1
  by_cases hlt : k < n
  · have e1 : min k n = k := by omega
    rw [e1] at q2
    have hlt' : (k : Int) < (n : Int) := by omega
    obtain ⟨b, off, rfl⟩ := h.bs.some (by omega)
    have hc := h.bs.at k hlt
    have hr := h.bs.range k
    have hfin : Rdr (w.setCell ⟨r, 1, none⟩ (.int .i64 ((k : Int) + 1))) r (some ⟨b, off, none⟩) n c zs (k + 1) := by
      refine ⟨?_, ?_, hs, h.far⟩
      · have := h.blk.set 1 (.int .i64 ((k : Int) + 1))
        rw [show (min (k + 1) n) = k + 1 by omega]
        simpa using this
      · refine turn_bs' (turn_set w r 1 _) h.bs ?_
        intro h0 j hj b' off' e
        subst hj
        exact h.far h0 b' off' e
    have HF := hide hfin
    have HT := hide (turn_set w r 1 (.int .i64 ((k : Int) + 1)))
    clear hfin h e1
    generalize zs.getD k 0 = z at *
    obtain ⟨z0, z1⟩ := hr
    go_enter Try.func41, Try.ntmps41
    go_wp2
    go_quiet (fail)
    go_wp2
    go_quiet (fail)
    go_wp2
    go_ret
    exact ⟨rfl, ⟨HF.out.blk, HF.out.bs, HF.out.small, HF.out.far⟩, ⟨HT.out.os, HT.out.tape, HT.out.output, HT.out.size, HT.out.block⟩⟩
  · have e1 : min k n = n := by omega
    rw [e1] at q2
    have e0 : zs.getD k 0 = 0 := by simp [List.getD_eq_getElem?_getD, show zs.length ≤ k by omega]
    have hfin : Rdr w r a n c zs (k + 1) := ⟨by rw [show min (k + 1) n = min k n by omega]; exact h.blk, h.bs, hs, h.far⟩
    have HF := hide hfin
    rw [e0]
    have hd : ((n : Int) < (n : Int)) = False := by simp
    clear hfin h e1 e0
    go_enter Try.func41, Try.ntmps41
    go_wp2
    go_quiet (fail)
    go_wp2
    go_ret
    exact ⟨rfl, ⟨HF.out.blk, HF.out.bs, HF.out.small, HF.out.far⟩, ⟨rfl, rfl, rfl, Nat.le_refl _, fun _ _ _ => rfl⟩⟩
theorem next_is (r : Nat) (a : Option Addr) (n c : Nat) (zs : List Int) (k : Nat) (v : Int) (w : World) (h : Rdr w r a n c zs k) (hv : Hid (zs.getD k 0 = v)) :
    Calls Try.prog 41 #[.pointer (some ⟨r, 0, none⟩)] w fun e w' => e = .returned (.int .i64 v) ∧ Rdr w' r a n c zs (k + 1) ∧ Turn (fun j => j = r) w w' :=
  (next_any r a n c zs k w h).mono fun e w' he => ⟨by rw [he.1, hv.out], he.2⟩
theorem draw_is {w : World} {a : Option Addr} {n c : Nat} {zs : List Int} (h : BS w a n c zs) (k : Nat) : ∃ v : Int, Hid (zs.getD k 0 = v) ∧ 0 ≤ v ∧ v ≤ 255 := ⟨_, rfl, (h.range k).1, (h.range k).2⟩
end Go.Proofs.Ytngdgogjlpjjpac
