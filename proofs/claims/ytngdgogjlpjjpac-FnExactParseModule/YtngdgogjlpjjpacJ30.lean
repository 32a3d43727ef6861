import Derived.Test.YtngdgogjlpjjpacJ29
namespace Go.Proofs.Ytngdgogjlpjjpac
open Go.RowKit
set_option linter.unusedVariables false
set_option linter.unusedSimpArgs false
set_option maxRecDepth 100000

def xm : ByteArray := ⟨#[88, 77]⟩
/-- the mark stands at the front -/
def mark (zs : List Int) : Bool := decide (2 ≤ zs.length) && decide (strOf (zs.take 2) = xm)
def BgPost (w : World) (g b n cap : Nat) (zs : List Int) (e : Ending) (w' : World) : Prop := Turn (fun j => j = g) w w' ∧ ((20000 < n ∧ e = panicE 3) ∨ (n ≤ 20000 ∧ mark zs = false ∧ e = panicE 1) ∨ (n ≤ 20000 ∧ mark zs = true ∧ e = .returned (.tuple #[]) ∧ RdI w' g b n cap zs (zs.drop 2)))

set_option maxHeartbeats 1000000 in
theorem begin_rd (g b n cap : Nat) (zs : List Int) (w : World) (h : RdI w g b n cap zs zs) :
    Calls Try.prog 89 #[.pointer (some ⟨g, 0, none⟩)] w (BgPost w g b n cap zs) := by
  obtain ⟨k, a, hk, hr, hb, ha⟩ := h.pos
  have hl := h.bs.1
  obtain rfl : k = 0 := by
    have := congrArg List.length hr
    rw [List.length_drop, hl] at this
    omega
  have q0 := hb.cell 0
  simp at q0
  clear hr hb ha hk
  have hsm := h.small
  by_cases c1 : 20000 < n
  · have c1' : (20000 : Int) < (n : Int) := by omega
    clear h
    go_enter Try.func89, Try.ntmps89
    go_wp2
    exact ⟨rfl, Turn.refl _ _, .inl ⟨c1, rfl⟩⟩
  · have c1' : ¬ (20000 : Int) < (n : Int) := by omega
    by_cases c2 : n < 2
    · have c2' : (n : Int) < 2 := by omega
      have HM := hide (show mark zs = false by unfold mark; rw [decide_eq_false (by omega)]; rfl)
      clear h
      go_enter Try.func89, Try.ntmps89
      go_wp2
      exact ⟨rfl, Turn.refl _ _, .inr (.inl ⟨by omega, HM.out, rfl⟩)⟩
    · have c2' : ¬ (n : Int) < 2 := by omega
      have HT := hide (take_any g b n cap zs zs 2 w h (by omega))
      have hp : pB 2 zs = some (zs.take 2, zs.drop 2) := pB_some (by omega)
      have HM := hide (show mark zs = decide (strOf (zs.take 2) = xm) by unfold mark; rw [decide_eq_true (by omega)]; rfl)
      clear h
      go_enter Try.func89, Try.ntmps89
      go_wp2_with fail
      refine HT.out.mono ?_
      intro e w1 H
      obtain ⟨T1, v, rfl, ⟨b', k, c', rfl, hB⟩, R1⟩ := H.some hp
      have hcv := run_text w1 b' k c' (zs.take 2) hB
      have hlt : (zs.take 2).length = 2 := by rw [List.length_take]; omega
      rw [hlt] at hcv ⊢
      clear hlt
      have HR := hide (And.intro T1 R1)
      clear T1 R1 hB H HT hp
      by_cases c3 : strOf (zs.take 2) = xm
      · rw [c3] at hcv
        rw [decide_eq_true c3] at HM
        clear c3
        unfold xm at hcv
        go_wp2
        go_end0
        exact ⟨HR.out.1, .inr (.inr ⟨by omega, HM.out, rfl, HR.out.2⟩)⟩
      · rw [decide_eq_false c3] at HM
        generalize strOf (zs.take 2) = S at *
        have c4 : (S.toList == [88, 77]) = false := by
          rw [beq_eq_false_iff_ne]
          intro e
          rw [ByteArray.toList_eq] at e
          exact c3 (by cases S; rename_i d; cases d; simp at e; subst e; rfl)
        go_wp2
        exact ⟨rfl, HR.out.1, .inr (.inl ⟨by omega, HM.out, rfl⟩)⟩
theorem end_rd (g b n cap : Nat) (zs r : List Int) (w : World) (h : RdI w g b n cap zs r) :
    Calls Try.prog 91 #[.pointer (some ⟨g, 0, none⟩)] w (fun e w' => w = w' ∧ ((r = [] ∧ e = .returned (.tuple #[])) ∨ (r ≠ [] ∧ e = panicE 3))) := by
  obtain ⟨k, a, hk, hr, hb, ha⟩ := h.pos
  have hl := h.bs.1
  have q0 := hb.cell 0
  simp at q0
  have hrl : r.length = n - k := by rw [hr, List.length_drop, hl]
  by_cases c1 : n - k = 0
  · have HM := hide (List.eq_nil_of_length_eq_zero (hrl.trans c1))
    rw [c1] at q0
    clear h hr hb ha hrl
    go_enter Try.func91, Try.ntmps91
    go_wp2
    go_end0
    exact ⟨rfl, .inl ⟨HM.out, rfl⟩⟩
  · have HM := hide (show r ≠ [] from fun e => by rw [e] at hrl; simp at hrl; omega)
    have c1' : (0 : Int) < ((n - k : Nat) : Int) := by omega
    clear h hr hb ha hrl
    go_enter Try.func91, Try.ntmps91
    go_wp2
    exact ⟨rfl, rfl, .inr ⟨HM.out, rfl⟩⟩
end Go.Proofs.Ytngdgogjlpjjpac

namespace Go.Proofs.Ytngdgogjlpjjpac
open Go.RowKit
set_option linter.unusedVariables false
set_option linter.unusedSimpArgs false
set_option maxRecDepth 100000

theorem flat_one {α : Type} (f : α → Value) : ∀ xs : List α, xs.flatMap (fun x => [f x]) = xs.map f
  | [] => rfl
  | x :: xs => by rw [List.flatMap_cons, flat_one f xs]; rfl
theorem flat_clI (xs : List Int) : xs.flatMap clI = xs.map (Value.int .i64) := flat_one _ xs
theorem flat_clT (xs : List ByteArray) : xs.flatMap clT = xs.map Value.string := flat_one _ xs
theorem flat_clX : ∀ (xs : List Ex) (i : Nat), i < xs.length → (xs.flatMap clX)[i * 3]? = some (.string (xs.getD i zE).1) ∧ (xs.flatMap clX)[i * 3 + 1]? = some (.int .i64 (xs.getD i zE).2.1) ∧ (xs.flatMap clX)[i * 3 + 2]? = some (.int .i64 (xs.getD i zE).2.2)
  | [], i, h => by simp at h
  | x :: xs, 0, h => ⟨rfl, rfl, rfl⟩
  | x :: xs, i + 1, h => by
    have ih := flat_clX xs i (by simpa using h)
    have e : ∀ d, ((x :: xs).flatMap clX)[(i + 1) * 3 + d]? = (xs.flatMap clX)[i * 3 + d]? := fun d => by
      rw [List.flatMap_cons, List.getElem?_append_right (by simp [clX]; omega)]
      congr 1
      simp [clX]
      omega
    have e0 := e 0
    simp only [Nat.add_zero] at e0
    refine ⟨e0.trans ih.1, (e 1).trans ih.2.1, (e 2).trans ih.2.2⟩
theorem og_parts {α : Type} {t : TypeId} {sz : Nat} {f : α → List Value} {w : World} {base n c : Nat} {a : Option Addr} {xs : List α} (h : OG t sz f w base (.slice a n c) xs) : xs.length = n ∧ n ≤ maxLen ∧ n ≤ c ∧ (n ≠ 0 → ∃ g, a = some ⟨g, 0, none⟩ ∧ ∀ j u, (xs.flatMap f)[j]? = some u → w.cell? ⟨g, j, none⟩ = some u) := by
  have hc := fun g hg => World.ownsRow.cells h (g := g) hg
  obtain ⟨hl, ⟨h0, h1⟩ | ⟨g, cap, cur, hv, hg, hh, h1, h2, h3, h4⟩⟩ := h
  · simp at h0
    obtain ⟨rfl, rfl, rfl⟩ := h0
    exact ⟨h1, Nat.zero_le _, Nat.le_refl _, fun hn => absurd rfl hn⟩
  · simp at hv
    obtain ⟨rfl, rfl, rfl⟩ := hv
    refine ⟨rfl, by omega, h1, fun hn => ⟨g, rfl, fun j u hj => ?_⟩⟩
    have := hc g rfl j u hj
    rwa [addr_add, Nat.zero_add] at this
theorem og_is {w : World} {base n c : Nat} {a : Option Addr} {xs : List Int} (h : OG 3 1 clI w base (.slice a n c) xs) (hx : ∀ z ∈ xs, wfi z) : IS w a n c xs := by
  obtain ⟨h1, h2, h3, h4⟩ := og_parts h
  refine ⟨h1, h2, hx, fun hn => ?_, h3⟩
  obtain ⟨g, rfl, hc⟩ := h4 hn
  refine ⟨g, 0, rfl, fun i hi => ?_⟩
  rw [Nat.zero_add]
  refine hc i _ ?_
  rw [flat_clI]
  simp [List.getD_eq_getElem?_getD, show i < xs.length by omega]
theorem og_ss {w : World} {base n c : Nat} {a : Option Addr} {xs : List ByteArray} (h : OG 9 1 clT w base (.slice a n c) xs) (hx : ∀ s ∈ xs, s.size ≤ 1048576) : SS w a n c xs := by
  obtain ⟨h1, h2, h3, h4⟩ := og_parts h
  refine ⟨h1, h2, hx, fun hn => ?_, h3⟩
  obtain ⟨g, rfl, hc⟩ := h4 hn
  refine ⟨g, 0, rfl, fun i hi => ?_⟩
  rw [Nat.zero_add]
  refine hc i _ ?_
  rw [flat_clT]
  simp [List.getD_eq_getElem?_getD, show i < xs.length by omega]
theorem og_es {w : World} {base n c : Nat} {a : Option Addr} {xs : List Ex} (h : OG 86 3 clX w base (.slice a n c) xs) (hx : ∀ s ∈ xs, s.1.size ≤ 1048576) : ES w a n c xs := by
  obtain ⟨h1, h2, h3, h4⟩ := og_parts h
  refine ⟨h1, h2, hx, fun hn => ?_, h3⟩
  obtain ⟨g, rfl, hc⟩ := h4 hn
  refine ⟨g, 0, rfl, fun i hi => ?_⟩
  rw [Nat.zero_add]
  obtain ⟨f0, f1, f2⟩ := flat_clX xs i (by omega)
  exact ⟨hc _ _ f0, hc _ _ f1, hc _ _ f2⟩
theorem obk_bks {w : World} {base n c : Nat} {a : Option Addr} {bl : List Bk} (h : OBk w base (.slice a n c) bl) (hx : ∀ B ∈ bl, ∀ z ∈ B.2.2.2, wfi z) : BKS w a n c bl := by
  have hh : OG 46 1 (fun B : Bk => [Value.slice B.1 B.2.1 B.2.2.1]) w base (.slice a n c) bl := by unfold OG; rw [flat_one]; exact h.head
  obtain ⟨h1, h2, h3, h4⟩ := og_parts hh
  refine ⟨h1, h2, fun hn => ?_, fun i hi => ?_, h3⟩
  · obtain ⟨g, rfl, hc⟩ := h4 hn
    refine ⟨g, 0, rfl, fun i hi => ?_⟩
    rw [Nat.zero_add]
    refine hc i _ ?_
    rw [flat_one]
    simp [List.getD_eq_getElem?_getD, show i < bl.length by omega]
  · have hm : bl.getD i zB ∈ bl := by simp [List.getD_eq_getElem?_getD, show i < bl.length by omega]
    obtain ⟨e, o⟩ := h.rows _ hm
    exact og_is o (hx _ hm)
theorem wd_wfi {x : Int} (h : Wd x) : wfi x := by unfold Wd at h; unfold wfi; omega
theorem ModO.md {W : World} {base : Nat} {P : PMod} {a1 : Option Addr} {c1 : Nat} {a2 : Option Addr} {c2 : Nat} {bl : List Bk} {a3 : Option Addr} {c3 : Nat} {a5 : Option Addr} {c5 : Nat} {a6 : Option Addr} {c6 : Nat} {a7 : Option Addr} {c7 : Nat} (h : ModO W base P a1 c1 a2 c2 bl a3 c3 a5 c5 a6 c6 a7 c7) (R : PmR P) :
    MD W P.nm a1 P.tz.length c1 P.tz a2 bl.length c2 bl a3 P.dz.length c3 P.dz P.bss a5 P.rz.length c5 P.rz a6 P.ss.length c6 P.ss a7 P.es.length c7 P.es where
  n := by have := R.n; omega
  t := og_is h.t (fun z hz => wd_wfi (R.t.2 z hz))
  b := obk_bks h.b (fun B hB z hz => by
    have hm : B.2.2.2 ∈ P.bl := by rw [← h.bls]; exact List.mem_map.2 ⟨B, hB, rfl⟩
    exact wd_wfi ((R.b.2 _ hm).2 z hz))
  d := h.d.bs
  s := by have := R.s; unfold wfi; omega
  r := og_is h.r (fun z hz => by have := R.r.2 z hz; unfold wfi; omega)
  i := og_ss h.i (fun s hs => by have := R.i.2 s hs; omega)
  e := og_es h.e (fun s hs => by have := (R.e.2 s hs).1; omega)
/-- WHAT ModuleOk SAYS OF WHAT WAS READ -/
def bkOf (bl : List (List Int)) : List Bk := bl.map fun l => (none, l.length, l.length, l)
def mdoP (P : PMod) : Int := mdo P.nm P.tz.length P.tz P.bl.length (bkOf P.bl) P.dz.length P.bss P.rz.length P.rz P.ss.length P.ss P.es.length P.es
theorem mdo_bks {nm : ByteArray} {tn : Nat} {tz : List Int} {bl bl' : List Bk} {dn : Nat} {bss : Int} {rn : Nat} {rz : List Int} {im : Nat} {ss : List ByteArray} {en : Nat} {es : List Ex} (hl : bl.length = bl'.length) (h : ∀ i, i < bl.length → (bl.getD i zB).2.1 = (bl'.getD i zB).2.1 ∧ (bl.getD i zB).2.2.2 = (bl'.getD i zB).2.2.2) :
    mdo nm tn tz bl.length bl dn bss rn rz im ss en es = mdo nm tn tz bl.length bl' dn bss rn rz im ss en es := by
  have e : reb [] bl = reb [] bl' := by
    unfold reb
    rw [← hl]
    apply List.map_congr_left
    intro i hi
    have := h i (by simpa using hi)
    rw [this.1, this.2]
  rw [← reb_mdo [] nm tn tz bl.length bl dn bss rn rz im ss en es rfl, e, reb_mdo [] nm tn tz bl.length bl' dn bss rn rz im ss en es hl.symm]
theorem ModO.mdo {W : World} {base : Nat} {P : PMod} {a1 : Option Addr} {c1 : Nat} {a2 : Option Addr} {c2 : Nat} {bl : List Bk} {a3 : Option Addr} {c3 : Nat} {a5 : Option Addr} {c5 : Nat} {a6 : Option Addr} {c6 : Nat} {a7 : Option Addr} {c7 : Nat} (h : ModO W base P a1 c1 a2 c2 bl a3 c3 a5 c5 a6 c6 a7 c7) :
    mdo P.nm P.tz.length P.tz bl.length bl P.dz.length P.bss P.rz.length P.rz P.ss.length P.ss P.es.length P.es = mdoP P := by
  have hl : bl.length = P.bl.length := by rw [← h.bls, List.length_map]
  unfold mdoP
  rw [← hl]
  refine mdo_bks (by rw [hl]; simp [bkOf]) (fun i hi => ?_)
  have hm : bl.getD i zB ∈ bl := by simp [List.getD_eq_getElem?_getD, hi]
  have e : (bkOf P.bl).getD i zB = (none, (bl.getD i zB).2.2.2.length, (bl.getD i zB).2.2.2.length, (bl.getD i zB).2.2.2) := by
    rw [← h.bls]
    simp [bkOf, List.getD_eq_getElem?_getD, hi]
  rw [e]
  exact ⟨(h.b.rows _ hm).1, rfl⟩
/-- WHAT ParseModule GIVES: a code, and a module where it is 0. -/
def prs (zs : List Int) : Int × Option PMod :=
  if 20000 < zs.length then (3, none) else if mark zs = false then (1, none) else match pMod (zs.drop 2) with
    | none => (2, none)
    | some x => if x.2 ≠ [] then (3, none) else if mdoP x.1 ≠ 0 then (10 + mdoP x.1, none) else (0, some x.1)
end Go.Proofs.Ytngdgogjlpjjpac
