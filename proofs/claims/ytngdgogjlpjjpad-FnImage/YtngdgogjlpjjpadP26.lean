import Derived.Test.YtngdgogjlpjjpadP06
import Derived.Test.YtngdgogjlpjjpadP11
import Derived.Test.YtngdgogjlpjjpadP21
import Derived.Test.YtngdgogjlpjjpadP22
namespace Go.Proofs.Ytngdgogjlpjjpad
open Go.RowKit
set_option linter.unusedVariables false
set_option linter.unusedSimpArgs false
set_option maxRecDepth 100000
def xm : ByteArray := ⟨#[88, 77]⟩
def mark (zs : List Int) : Bool := decide (2 ≤ zs.length) && decide (strOf (zs.take 2) = xm)
def BgPost (w : World) (g b n cap : Nat) (zs : List Int) (e : Ending) (w' : World) : Prop := Turn (fun j => j = g) w w' ∧ ((20000 < n ∧ e = panicE 3) ∨ (n ≤ 20000 ∧ mark zs = false ∧ e = panicE 1) ∨ (n ≤ 20000 ∧ mark zs = true ∧ e = .returned (.tuple #[]) ∧ RdI w' g b n cap zs (zs.drop 2)))
set_option maxHeartbeats 1000000 in
theorem begin_rd (g b n cap : Nat) (zs : List Int) (w : World) (h : RdI w g b n cap zs zs) :
    Calls Try.prog 28 #[.pointer (some ⟨g, 0, none⟩)] w (BgPost w g b n cap zs) := by
  obtain ⟨k, a, hk, hr, hb, ha⟩ := h.pos
  have hl := h.bs.1
  obtain rfl : k = 0 := by
    have := congrArg List.length hr
    rw [List.length_drop, hl] at this
    omega
  have q0 := hb.cell 0
  simp at q0
  clear hr hb ha hk
  have hsm := h.small
  by_cases c1 : 20000 < n
  · have c1' : (20000 : Int) < (n : Int) := by omega
    clear h
    go_enter Try.func28, Try.ntmps28
    go_wp2
    exact ⟨rfl, Turn.refl _ _, .inl ⟨c1, rfl⟩⟩
  · have c1' : ¬ (20000 : Int) < (n : Int) := by omega
    by_cases c2 : n < 2
    · have c2' : (n : Int) < 2 := by omega
      have HM := hide (show mark zs = false by unfold mark; rw [decide_eq_false (by omega)]; rfl)
      clear h
      go_enter Try.func28, Try.ntmps28
      go_wp2
      exact ⟨rfl, Turn.refl _ _, .inr (.inl ⟨by omega, HM.out, rfl⟩)⟩
    · have c2' : ¬ (n : Int) < 2 := by omega
      have HT := hide (take_any g b n cap zs zs 2 w h (by omega))
      have hp : pB 2 zs = some (zs.take 2, zs.drop 2) := pB_some (by omega)
      have HM := hide (show mark zs = decide (strOf (zs.take 2) = xm) by unfold mark; rw [decide_eq_true (by omega)]; rfl)
      clear h
      go_enter Try.func28, Try.ntmps28
      go_wp2_with fail
      refine HT.out.mono ?_
      intro e w1 H
      obtain ⟨T1, v, rfl, ⟨b', k, c', rfl, hB⟩, R1⟩ := H.some hp
      have hcv := run_text w1 b' k c' (zs.take 2) hB
      have hlt : (zs.take 2).length = 2 := by rw [List.length_take]; omega
      rw [hlt] at hcv ⊢
      clear hlt
      have HR := hide (And.intro T1 R1)
      clear T1 R1 hB H HT hp
      by_cases c3 : strOf (zs.take 2) = xm
      · rw [c3] at hcv
        rw [decide_eq_true c3] at HM
        clear c3
        unfold xm at hcv
        go_wp2
        go_end0
        exact ⟨HR.out.1, .inr (.inr ⟨by omega, HM.out, rfl, HR.out.2⟩)⟩
      · rw [decide_eq_false c3] at HM
        generalize strOf (zs.take 2) = S at *
        have c4 : (S.toList == [88, 77]) = false := by
          rw [beq_eq_false_iff_ne]
          intro e
          rw [ByteArray.toList_eq] at e
          exact c3 (by cases S; rename_i d; cases d; simp at e; subst e; rfl)
        go_wp2
        exact ⟨rfl, HR.out.1, .inr (.inl ⟨by omega, HM.out, rfl⟩)⟩
theorem end_rd (g b n cap : Nat) (zs r : List Int) (w : World) (h : RdI w g b n cap zs r) :
    Calls Try.prog 30 #[.pointer (some ⟨g, 0, none⟩)] w (fun e w' => w = w' ∧ ((r = [] ∧ e = .returned (.tuple #[])) ∨ (r ≠ [] ∧ e = panicE 3))) := by
  obtain ⟨k, a, hk, hr, hb, ha⟩ := h.pos
  have hl := h.bs.1
  have q0 := hb.cell 0
  simp at q0
  have hrl : r.length = n - k := by rw [hr, List.length_drop, hl]
  by_cases c1 : n - k = 0
  · have HM := hide (List.eq_nil_of_length_eq_zero (hrl.trans c1))
    rw [c1] at q0
    clear h hr hb ha hrl
    go_enter Try.func30, Try.ntmps30
    go_wp2
    go_end0
    exact ⟨rfl, .inl ⟨HM.out, rfl⟩⟩
  · have HM := hide (show r ≠ [] from fun e => by rw [e] at hrl; simp at hrl; omega)
    have c1' : (0 : Int) < ((n - k : Nat) : Int) := by omega
    clear h hr hb ha hrl
    go_enter Try.func30, Try.ntmps30
    go_wp2
    exact ⟨rfl, rfl, .inr ⟨HM.out, rfl⟩⟩
theorem wd_wfi {x : Int} (h : Wd x) : wfi x := by unfold Wd at h; unfold wfi; omega
theorem ModO.md {W : World} {base : Nat} {P : PMod} {a1 : Option Addr} {c1 : Nat} {a2 : Option Addr} {c2 : Nat} {bl : List Bk} {a3 : Option Addr} {c3 : Nat} {a5 : Option Addr} {c5 : Nat} {a6 : Option Addr} {c6 : Nat} {a7 : Option Addr} {c7 : Nat} (h : ModO W base P a1 c1 a2 c2 bl a3 c3 a5 c5 a6 c6 a7 c7) (R : PmR P) :
    MD W P.nm a1 P.tz.length c1 P.tz a2 bl.length c2 bl a3 P.dz.length c3 P.dz P.bss a5 P.rz.length c5 P.rz a6 P.ss.length c6 P.ss a7 P.es.length c7 P.es where
  n := by have := R.n; omega
  t := og_is h.t (fun z hz => wd_wfi (R.t.2 z hz))
  b := obk_bks h.b (fun B hB z hz => by
    have hm : B.2.2.2 ∈ P.bl := by rw [← h.bls]; exact List.mem_map.2 ⟨B, hB, rfl⟩
    exact wd_wfi ((R.b.2 _ hm).2 z hz))
  d := h.d.bs
  s := by have := R.s; unfold wfi; omega
  r := og_is h.r (fun z hz => by have := R.r.2 z hz; unfold wfi; omega)
  i := og_ss h.i (fun s hs => by have := R.i.2 s hs; omega)
  e := og_es h.e (fun s hs => by have := (R.e.2 s hs).1; omega)
theorem ModO.mdo {W : World} {base : Nat} {P : PMod} {a1 : Option Addr} {c1 : Nat} {a2 : Option Addr} {c2 : Nat} {bl : List Bk} {a3 : Option Addr} {c3 : Nat} {a5 : Option Addr} {c5 : Nat} {a6 : Option Addr} {c6 : Nat} {a7 : Option Addr} {c7 : Nat} (h : ModO W base P a1 c1 a2 c2 bl a3 c3 a5 c5 a6 c6 a7 c7) :
    mdo P.nm P.tz.length P.tz bl.length bl P.dz.length P.bss P.rz.length P.rz P.ss.length P.ss P.es.length P.es = mdoP P := by
  have hl : bl.length = P.bl.length := by rw [← h.bls, List.length_map]
  unfold mdoP
  rw [← hl]
  refine mdo_bks (by rw [hl]; simp [bkOf]) (fun i hi => ?_)
  have hm : bl.getD i zB ∈ bl := by simp [List.getD_eq_getElem?_getD, hi]
  have e : (bkOf P.bl).getD i zB = (none, (bl.getD i zB).2.2.2.length, (bl.getD i zB).2.2.2.length, (bl.getD i zB).2.2.2) := by
    rw [← h.bls]
    simp [bkOf, List.getD_eq_getElem?_getD, hi]
  rw [e]
  exact ⟨(h.b.rows _ hm).1, rfl⟩
def prs (zs : List Int) : Int × Option PMod :=
  if 20000 < zs.length then (3, none) else if mark zs = false then (1, none) else match pMod (zs.drop 2) with
    | none => (2, none)
    | some x => if x.2 ≠ [] then (3, none) else if mdoP x.1 ≠ 0 then (10 + mdoP x.1, none) else (0, some x.1)
def Sr (f : Nat → Option Addr × Nat × Nat) (n j : Nat) : Prop := ∃ i, i < n ∧ (Value.slice (f i).1 (f i).2.1 (f i).2.2).ownBlock = some j
structure Rr (w : World) (base : Nat) (a : Option Addr) (n : Nat) (f : Nat → Option Addr × Nat × Nat) (X : Nat → List Int) : Prop where
  head : n ≠ 0 → ∃ g cs, a = some ⟨g, 0, none⟩ ∧ ¬ Sr f n g ∧ Blk w g cs 24 ∧ ∀ i, i < n → cs[i]? = some (.slice (f i).1 (f i).2.1 (f i).2.2)
  rows : ∀ i, i < n → OI w base (.slice (f i).1 (f i).2.1 (f i).2.2) (X i)
  apart : ∀ i j, i < n → j < n → i ≠ j → ∀ k, (Value.slice (f i).1 (f i).2.1 (f i).2.2).ownBlock = some k → (Value.slice (f j).1 (f j).2.1 (f j).2.2).ownBlock ≠ some k
theorem Rr.kept {w w' : World} {base : Nat} {a : Option Addr} {n : Nat} {f : Nat → Option Addr × Nat × Nat} {X : Nat → List Int} {S : Nat → Prop} (h : Rr w base a n f X) (t : Turn S w w') (hs : ∀ i, i < n → ∀ k, (Value.slice (f i).1 (f i).2.1 (f i).2.2).ownBlock = some k → ¬ S k) (hh : n ≠ 0 → ∀ g cs, a = some ⟨g, 0, none⟩ → Blk w g cs 24 → ¬ S g) : Rr w' base a n f X :=
  ⟨fun hn => by obtain ⟨g, cs, ha, h1, h2, h3⟩ := h.head hn; exact ⟨g, cs, ha, h1, turn_blk t h2 (hh hn g cs ha h2), h3⟩, fun i hi => turn_oi t (h.rows i hi) (hs i hi), h.apart⟩
end Go.Proofs.Ytngdgogjlpjjpad
