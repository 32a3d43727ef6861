import Derived.Test.YtngdgogjlpjjpacJ36
import Derived.Test.YtngdgogjlpjjpacJ34
import Derived.Deep.RegionLaw
namespace Go.Proofs.Ytngdgogjlpjjpac
open Go.RowKit
set_option linter.unusedVariables false
set_option linter.unusedSimpArgs false
set_option maxRecDepth 100000

/-- THE STATE OF spec.ParseModule: the reader's box, the module's, the answer's, the empty one. -/
structure Ss (w W : World) (b n cap : Nat) (zs : List Int) (st : Option (List Int)) (cs : Array Value) : Prop where
  rd : RdS W (w.heap.size + 2) b n cap zs st
  be : Below w.heap.size w W
  k0 : Blk W w.heap.size z8 56
  k1 : Blk W (w.heap.size + 1) z8 56
  k2 : Blk W (w.heap.size + 3) cs 56
  lo : b < w.heap.size
/-- the blocks that ParseModule itself writes -/
def Sg (w : World) (j : Nat) : Prop := j = w.heap.size + 2 ∨ j = w.heap.size + 3
theorem Ss.call {w W W' : World} {b n cap : Nat} {zs : List Int} {st st' : Option (List Int)} {cs : Array Value} (h : Ss w W b n cap zs st cs) (T : Turn (fun j => j = w.heap.size + 2) W W') (R : RdS W' (w.heap.size + 2) b n cap zs st') : Ss w W' b n cap zs st' cs :=
  ⟨R, below_turn h.be T (fun k hk => by omega) h.be.size, turn_blk T h.k0 (by omega), turn_blk T h.k1 (by omega), turn_blk T h.k2 (by omega), h.lo⟩
theorem Ss.set {w W : World} {b n cap : Nat} {zs : List Int} {st : Option (List Int)} {cs : Array Value} (h : Ss w W b n cap zs st cs) (i : Nat) (v : Value) : Ss w (W.setCell ⟨w.heap.size + 3, i, none⟩ v) b n cap zs st (cs.setIfInBounds i v) :=
  ⟨h.rd.turn (turn_set W (w.heap.size + 3) i v) (by omega) (by have := h.lo; omega), below_turn h.be (turn_set W (w.heap.size + 3) i v) (fun k hk => by omega) h.be.size, h.k0.other _ _ (by show w.heap.size ≠ w.heap.size + 3; omega), h.k1.other _ _ (by show w.heap.size + 1 ≠ w.heap.size + 3; omega), h.k2.set i v, h.lo⟩
theorem Ss.below {w W W' : World} {b n cap : Nat} {zs : List Int} {st : Option (List Int)} {cs : Array Value} (h : Ss w W b n cap zs st cs) (hb : Below W.heap.size W W') : Ss w W' b n cap zs st cs :=
  ⟨h.rd.below hb, h.be.trans (hb.mono h.be.size), h.k0.below hb, h.k1.below hb, h.k2.below hb, h.lo⟩
theorem Ss.sz {w W : World} {b n cap : Nat} {zs : List Int} {st : Option (List Int)} {cs : Array Value} (h : Ss w W b n cap zs st cs) : w.heap.size + 4 ≤ W.heap.size := h.k2.lt
theorem Ss.grown {w W W' : World} {b n cap base : Nat} {zs : List Int} {st : Option (List Int)} {cs : Array Value} {row : Option Nat} (h : Ss w W b n cap zs st cs) (hg : W.grownBy W' row) (hr : ∀ k, row = some k → base ≤ k) (hb : w.heap.size + 4 ≤ base) : Ss w W' b n cap zs st cs := by
  have t : Turn (fun j => row = some j) W W' := ⟨hg.os, hg.tape, hg.output, hg.size, fun j hj hs => hg.block j hj (fun e => hs e.symm)⟩
  have hlo := h.lo
  have hsz := h.sz
  exact ⟨h.rd.grown hg hr (by omega) (fun _ => by omega), below_turn h.be t (fun k hk => by have := hr k hk; omega) h.be.size, turn_blk t h.k0 (fun e => by have := hr _ e; omega), turn_blk t h.k1 (fun e => by have := hr _ e; omega), turn_blk t h.k2 (fun e => by have := hr _ e; omega), h.lo⟩
/-- the first two bytes -/
theorem mark_of {zs : List Int} (hz : Byt zs) : mark zs = true ↔ 2 ≤ zs.length ∧ zs.getD 0 0 = 88 ∧ zs.getD 1 0 = 77 := by
  unfold mark
  by_cases h2 : 2 ≤ zs.length
  · rw [decide_eq_true h2, Bool.true_and, decide_eq_true_iff, take2 zs h2]
    have z0 : 0 ≤ zs.getD 0 0 ∧ zs.getD 0 0 ≤ 255 := hz _ (by simp [List.getD_eq_getElem?_getD, show 0 < zs.length by omega])
    have z1 : 0 ≤ zs.getD 1 0 ∧ zs.getD 1 0 ≤ 255 := hz _ (by simp [List.getD_eq_getElem?_getD, show 1 < zs.length by omega])
    generalize zs.getD 0 0 = x at *
    generalize zs.getD 1 0 = y at *
    have key : ∀ (x : Int) (c : Nat), 0 ≤ x ∧ x ≤ 255 → c ≤ 255 → (UInt8.ofNat x.toNat = UInt8.ofNat c ↔ x = (c : Int)) := fun x c hx hc => by
      constructor
      · intro e
        have e1 : (UInt8.ofNat x.toNat).toNat = x.toNat % 256 := UInt8.toNat_ofNat'
        have e2 : (UInt8.ofNat c).toNat = c % 256 := UInt8.toNat_ofNat'
        rw [e] at e1
        omega
      · intro e
        rw [e, Int.toNat_natCast]
    constructor
    · intro e
      have e' : #[UInt8.ofNat x.toNat, UInt8.ofNat y.toNat] = #[88, 77] := congrArg ByteArray.data e
      simp at e'
      exact ⟨h2, (key x 88 z0 (by omega)).1 e'.1, (key y 77 z1 (by omega)).1 e'.2⟩
    · rintro ⟨_, rfl, rfl⟩
      rfl
  · rw [decide_eq_false h2]
    simp [h2]
end Go.Proofs.Ytngdgogjlpjjpac

namespace Go.Proofs.Ytngdgogjlpjjpac
open Go.RowKit
set_option linter.unusedVariables false
set_option linter.unusedSimpArgs false
set_option maxRecDepth 100000

theorem pa_none {w w' : World} {p : Int × Option PMod} {c : Int} (hp : p = (c, none)) (hb : Below w.heap.size w w') : PaPost w p (.returned (.tuple #[.agg z8, .int .i64 c])) w' := by
  subst hp
  exact ⟨hb, rfl⟩
theorem z8_frozen {W : World} {k : Nat} (h : Blk W k z8 56) : W.frozen? ⟨k, 0, none⟩ = false ∧ W.frozen? ⟨k, 1, none⟩ = false ∧ W.frozen? ⟨k, 2, none⟩ = false ∧ W.frozen? ⟨k, 3, none⟩ = false ∧ W.frozen? ⟨k, 4, none⟩ = false ∧ W.frozen? ⟨k, 5, none⟩ = false ∧ W.frozen? ⟨k, 6, none⟩ = false ∧ W.frozen? ⟨k, 7, none⟩ = false := h.froz
/-- the answer that is no module -/
theorem none_end0 {w V : World} (b' : Below w.heap.size w V) (k : Blk V w.heap.size z8 56) (c : Int) (p : Int × Option PMod) (hp : p = (c, none)) (tmps : Array Value) (h2 : tmps[2]? = some (.pointer (some ⟨w.heap.size, 0, none⟩))) (h3 : tmps[3]? = some (.int .i64 c)) :
    bodyPost Try.prog Try.f32 (PaPost w p) Exit.ret ⟨tmps, []⟩ V := by
  obtain ⟨t0, t1, t2, t3, t4, t5, t6, t7⟩ := z8_cells k
  refine bodyPost_ret_by (v := .tuple #[.agg z8, .int .i64 c]) ?_ rfl (pa_none hp b')
  simp [results, Try.results32, go_sem, h2, h3, t0, t1, t2, t3, t4, t5, t6, t7, z8]
/-- the empty box laid into the answer's -/
theorem none_end {w W : World} (be : Below w.heap.size w W) (k0 : Blk W w.heap.size z8 56) (c : Int) (p : Int × Option PMod) (hp : p = (c, none)) (tmps : Array Value) (h2 : tmps[2]? = some (.pointer (some ⟨w.heap.size, 0, none⟩))) (h3 : tmps[3]? = some (.int .i64 c)) :
    bodyPost Try.prog Try.f32 (PaPost w p) Exit.ret ⟨tmps, []⟩ (st8 W w.heap.size (.string ⟨#[]⟩) (.slice none 0 0) (.slice none 0 0) (.slice none 0 0) (.int .i64 0) (.slice none 0 0) (.slice none 0 0) (.slice none 0 0)) := by
  have t := turn_st8 W w.heap.size (.string ⟨#[]⟩) (.slice none 0 0) (.slice none 0 0) (.slice none 0 0) (.int .i64 0) (.slice none 0 0) (.slice none 0 0) (.slice none 0 0)
  have k := blk_st8 k0 rfl (.string ⟨#[]⟩) (.slice none 0 0) (.slice none 0 0) (.slice none 0 0) (.int .i64 0) (.slice none 0 0) (.slice none 0 0) (.slice none 0 0)
  exact none_end0 (below_turn be t (fun k hk => by omega) be.size) k c p hp tmps h2 h3

set_option maxHeartbeats 8000000 in
theorem sParse_bad (b n cap : Nat) (zs : List Int) (w : World) (h : BS w (some ⟨b, 0, none⟩) n cap zs) (hn : n ≤ 1048576) (hb : b < w.heap.size) (hbad : ¬ (n ≤ 20000 ∧ 2 ≤ n ∧ zs.getD 0 0 = 88 ∧ zs.getD 1 0 = 77)) :
    Calls Try.prog 32 #[.slice (some ⟨b, 0, none⟩) n cap] w (PaPost w (prs zs)) := by
  have HBAD := hide hbad
  clear hbad
  have hl := h.1
  have hby : Byt zs := h.2.2.1
  have HMK := hide (mark_of hby)
  have HPR : Hid (prs zs = if 20000 < zs.length then (3, none) else if mark zs = false then (1, none) else match pMod (zs.drop 2) with
    | none => (2, none)
    | some x => if x.2 ≠ [] then (3, none) else if mdoP x.1 ≠ 0 then (10 + mdoP x.1, none) else (0, some x.1)) := rfl
  obtain ⟨W0, hW0⟩ : ∃ W0, W0 = (w.alloc (.cells #[.string ⟨#[]⟩, .slice none 0 0, .slice none 0 0, .slice none 0 0, .int .i64 0, .slice none 0 0, .slice none 0 0, .slice none 0 0] 56)).alloc (.cells #[.string ⟨#[]⟩, .slice none 0 0, .slice none 0 0, .slice none 0 0, .int .i64 0, .slice none 0 0, .slice none 0 0, .slice none 0 0] 56) := ⟨_, rfl⟩
  have F0 : Below w.heap.size w W0 ∧ Blk W0 w.heap.size z8 56 ∧ Blk W0 (w.heap.size + 1) z8 56 := by
    subst hW0
    have b1 : Below w.heap.size w (w.alloc (.cells #[.string ⟨#[]⟩, .slice none 0 0, .slice none 0 0, .slice none 0 0, .int .i64 0, .slice none 0 0, .slice none 0 0, .slice none 0 0] 56)) := (Below.refl _ _).alloc (Nat.le_refl _) _
    have k1 := Blk.new w #[.string ⟨#[]⟩, .slice none 0 0, .slice none 0 0, .slice none 0 0, .int .i64 0, .slice none 0 0, .slice none 0 0, .slice none 0 0] 56
    have hs1 : (w.alloc (.cells #[.string ⟨#[]⟩, .slice none 0 0, .slice none 0 0, .slice none 0 0, .int .i64 0, .slice none 0 0, .slice none 0 0, .slice none 0 0] 56)).heap.size = w.heap.size + 1 := by simp
    generalize w.alloc (.cells #[.string ⟨#[]⟩, .slice none 0 0, .slice none 0 0, .slice none 0 0, .int .i64 0, .slice none 0 0, .slice none 0 0, .slice none 0 0] 56) = W1 at *
    have b2 : Below W1.heap.size W1 (W1.alloc (.cells #[.string ⟨#[]⟩, .slice none 0 0, .slice none 0 0, .slice none 0 0, .int .i64 0, .slice none 0 0, .slice none 0 0, .slice none 0 0] 56)) := (Below.refl _ _).alloc (Nat.le_refl _) _
    have k2 := Blk.new W1 #[.string ⟨#[]⟩, .slice none 0 0, .slice none 0 0, .slice none 0 0, .int .i64 0, .slice none 0 0, .slice none 0 0, .slice none 0 0] 56
    rw [hs1] at k2
    exact ⟨b1.trans (b2.mono (by omega)), k1.below b2, k2⟩
  obtain ⟨B0, K0, K1⟩ := F0
  obtain ⟨p0, p1, p2, p3, p4, p5, p6, p7⟩ := z8_cells K0
  obtain ⟨f0, f1, f2, f3, f4, f5, f6, f7⟩ := z8_frozen K0
  obtain ⟨u0, u1, u2, u3, u4, u5, u6, u7⟩ := z8_cells K1
  have HB0 := hide B0
  have HK0 := hide K0
  have HB := hide (h.below B0)
  by_cases c1 : 20000 < n
  · have c1' : (20000 : Int) < (n : Int) := by omega
    have HP := hide (show prs zs = (3, none) by rw [HPR.out, if_pos (by omega)])
    clear B0 K0 K1 h HPR HMK
    go_enter Try.func32, Try.ntmps32
    go_wp2
    rw [← hW0]
    exact none_end0 HB0.out HK0.out 3 _ HP.out _ rfl rfl
  · have c1' : ¬ (20000 : Int) < (n : Int) := by omega
    by_cases c2 : n < 2
    · have c2' : (n : Int) < 2 := by omega
      have HP := hide (show prs zs = (1, none) by
        rw [HPR.out, if_neg (by omega), if_pos]
        cases e : mark zs with
        | false => rfl
        | true => have := HMK.out.1 e; omega)
      clear B0 K0 K1 h HPR HMK
      go_enter Try.func32, Try.ntmps32
      go_wp2
      rw [← hW0]
      exact none_end0 HB0.out HK0.out 1 _ HP.out _ rfl rfl
    · have c2' : ¬ (n : Int) < 2 := by omega
      have m0 : (0 : Int) < (n : Int) := by omega
      have m1 : (1 : Int) < (n : Int) := by omega
      have b0 := HB.out.at 0 (by omega)
      have b1 := HB.out.at 1 (by omega)
      rw [hW0] at b0 b1
      by_cases c3 : zs.getD 0 0 = 88 ∧ zs.getD 1 0 = 77
      · exact absurd ⟨by omega, by omega, c3.1, c3.2⟩ HBAD.out
      · have HP := hide (show prs zs = (1, none) by
          rw [HPR.out, if_neg (by omega), if_pos]
          cases e : mark zs with
          | false => rfl
          | true => have := HMK.out.1 e; exact absurd ⟨this.2.1, this.2.2⟩ c3)
        have d1 : (zs.getD 0 0 == 88) = false ∨ (zs.getD 1 0 == 77) = false := by
          by_cases e : zs.getD 0 0 = 88
          · right; simp; intro e'; exact c3 ⟨e, by simpa [List.getD_eq_getElem?_getD] using e'⟩
          · left; simp; intro e'; exact e (by simpa [List.getD_eq_getElem?_getD] using e')
        generalize zs.getD 0 0 = x at *
        generalize zs.getD 1 0 = y at *
        by_cases e0 : x = 88
        · subst e0
          have e1 : (y != 77) = true := by simp; intro e; exact c3 ⟨rfl, e⟩
          clear B0 K0 K1 h HPR HMK c3 d1
          go_enter Try.func32, Try.ntmps32
          go_wp2
          rw [← hW0]
          exact none_end0 HB0.out HK0.out 1 _ HP.out _ rfl rfl
        · have e1 : (x != 88) = true := by simp [e0]
          clear B0 K0 K1 h HPR HMK c3 d1
          go_enter Try.func32, Try.ntmps32
          go_wp2
          rw [← hW0]
          exact none_end0 HB0.out HK0.out 1 _ HP.out _ rfl rfl
end Go.Proofs.Ytngdgogjlpjjpac
