import Derived.Test.YtngdgogjlpjjpacJ34
import Derived.Test.YtngdgogjlpjjpacJ39
import Derived.Test.YtngdgogjlpjjpacJ40
namespace Go.Proofs.Ytngdgogjlpjjpac
open Go.RowKit
set_option linter.unusedVariables false
set_option linter.unusedSimpArgs false
set_option maxRecDepth 100000

theorem prs_two {zs : List Int} (hz : Byt zs) (h : zs.length ≤ 20000 ∧ 2 ≤ zs.length ∧ zs.getD 0 0 = 88 ∧ zs.getD 1 0 = 77) : prs2 zs = prs zs := by
  unfold prs
  rw [if_neg (by omega), if_neg (by rw [(mark_of hz).2 ⟨h.2.1, h.2.2.1, h.2.2.2⟩]; decide)]
  rfl
/-- spec.ParseModule AT EVERY ARGUMENT -/
theorem sParseModule_any (b n cap : Nat) (zs : List Int) (w : World) (h : BS w (some ⟨b, 0, none⟩) n cap zs) (hn : n ≤ 1048576) (hb : b < w.heap.size) :
    Calls Try.prog 32 #[.slice (some ⟨b, 0, none⟩) n cap] w (PaPost w (prs zs)) := by
  have hl := h.1
  by_cases c : n ≤ 20000 ∧ 2 ≤ n ∧ zs.getD 0 0 = 88 ∧ zs.getD 1 0 = 77
  · rw [← prs_two h.2.2.1 (by rw [hl]; exact c)]
    exact sParse_good b n cap zs w h c.1 hb c.2.1 c.2.2.1 c.2.2.2
  · exact sParse_bad b n cap zs w h hn hb c
/-- no module -/
def P0 : PMod := ⟨⟨#[]⟩, [], [], [], 0, [], [], []⟩
def pOf (zs : List Int) : PMod := (prs zs).2.getD P0
theorem pm_zero : PmR P0 where
  n := by decide
  t := by simp [P0]
  b := by simp [P0]
  d := ⟨by simp [P0], fun z hz => by simp [P0] at hz⟩
  s := by simp [P0]
  r := by simp [P0]
  i := by simp [P0]
  e := by simp [P0]
theorem mo_zero (W : World) (base : Nat) : ModO W base P0 none 0 none 0 [] none 0 none 0 none 0 none 0 :=
  ⟨og_nil _ _ _ _ _, obk_nil _ _, rfl, ⟨⟨rfl, .inl ⟨rfl, rfl⟩⟩, fun z hz => by simp [P0] at hz⟩, og_nil _ _ _ _ _, og_nil _ _ _ _ _, og_nil _ _ _ _ _, fun k hk => by simp [Value.ownBlock] at hk, fun k hk => by simp [Value.ownBlock] at hk, fun k hk => by simp [Value.ownBlock] at hk⟩
/-- how many cells a module has -/
def szP (P : PMod) : Nat := P.tz.length + P.bl.length + (P.bl.map List.length).sum + P.dz.length + P.rz.length + P.ss.length + P.es.length
theorem prs_some {zs : List Int} {c : Int} {P : PMod} (h : prs zs = (c, some P)) : c = 0 ∧ mdoP P = 0 ∧ ∃ r, pMod (zs.drop 2) = some (P, r) := by
  unfold prs at h
  split at h
  · simp at h
  split at h
  · simp at h
  split at h
  · simp at h
  · rename_i x hx
    split at h
    · simp at h
    split at h
    · simp at h
    · rename_i h1 h2
      simp at h
      obtain ⟨rfl, rfl⟩ := h
      exact ⟨rfl, by simpa using h2, x.2, by rw [hx]⟩
theorem sum_le_mul : ∀ (l : List Nat) (m : Nat), (∀ x ∈ l, x ≤ m) → l.sum ≤ l.length * m
  | [], m, h => by simp
  | x :: xs, m, h => by
    have h1 := h x (by simp)
    have h2 := sum_le_mul xs m (fun y hy => h y (by simp [hy]))
    simp only [List.sum_cons, List.length_cons]
    rw [Nat.add_mul]
    omega
theorem pOf_facts {zs : List Int} (hz : Byt zs) : PmR (pOf zs) ∧ szP (pOf zs) ≤ 2000 := by
  unfold pOf
  cases e : (prs zs).2 with
  | none => exact ⟨pm_zero, by show szP P0 ≤ 2000; decide⟩
  | some P =>
    show PmR P ∧ szP P ≤ 2000
    have e' : prs zs = ((prs zs).1, some P) := by rw [← e]
    obtain ⟨_, h2, r, h3⟩ := prs_some e'
    refine ⟨(pm_of (hz.drop 2) h3).1, ?_⟩
    unfold mdoP at h2
    have V := vm_of_mdo (by simp [bkOf]) h2
    have hb : (P.bl.map List.length).sum ≤ P.bl.length * 64 := by
      have := sum_le_mul (P.bl.map List.length) 64 (fun x hx => by
        rw [List.mem_map] at hx
        obtain ⟨l, hl, rfl⟩ := hx
        obtain ⟨i, hi, rfl⟩ := List.getElem_of_mem hl
        have := (V.bw i (by simp [bkOf]; exact hi)).1
        simpa [bkOf, List.getD_eq_getElem?_getD, hi] using this)
      simpa using this
    have h1 := V.t
    have h4 := V.b
    have h5 := V.d
    have h6 := V.r
    have h7 := V.i
    have h8 := V.e
    unfold szP
    omega
/-- WHAT ParseModule GIVES, one way for all -/
def PaM (w : World) (zs : List Int) (e : Ending) (w' : World) : Prop := Below w.heap.size w w' ∧ ∃ a1 c1 a2 c2 bl a3 c3 a5 c5 a6 c6 a7 c7, e = .returned (.tuple #[.agg (modV (pOf zs) a1 c1 a2 c2 bl a3 c3 a5 c5 a6 c6 a7 c7), .int .i64 (prs zs).1]) ∧ ModO w' w.heap.size (pOf zs) a1 c1 a2 c2 bl a3 c3 a5 c5 a6 c6 a7 c7
theorem pa_mod {w w' : World} {zs : List Int} {e : Ending} (h : PaPost w (prs zs) e w') : PaM w zs e w' := by
  obtain ⟨hb, h⟩ := h
  refine ⟨hb, ?_⟩
  unfold pOf
  cases ep : (prs zs).2 with
  | none =>
    rw [ep] at h
    exact ⟨none, 0, none, 0, [], none, 0, none, 0, none, 0, none, 0, h, mo_zero _ _⟩
  | some P =>
    rw [ep] at h
    exact h
theorem mt_of_md {nm : ByteArray} {ta : Option Addr} {tn tc : Nat} {tz : List Int} {ba : Option Addr} {bn bc : Nat} {bl : List Bk} {da : Option Addr} {dn dc : Nat} {dz : List Int} {bss : Int} {ra : Option Addr} {rn rc : Nat} {rz : List Int} {ia : Option Addr} {im ic : Nat} {ss : List ByteArray} {ea : Option Addr} {en ec : Nat} {es : List Ex} {w : World} (h : MD w nm ta tn tc tz ba bn bc bl da dn dc dz bss ra rn rc rz ia im ic ss ea en ec es) : MT w nm ta tn tc tz ba bn bc bl da dn dc dz bss ra rn rc rz ia im ic ss ea en ec es where
  n := by have := h.n; unfold maxLen; omega
  t := h.t
  b := h.b
  d := h.d
  s := h.s
  r := h.r
  i := by
    obtain ⟨h1, h2, h3, h4, h5⟩ := h.i
    refine ⟨h1, h2, fun i => ?_, h4, h5⟩
    by_cases hi : i < ss.length
    · have := h3 (ss.getD i zS) (by simp [List.getD_eq_getElem?_getD, hi])
      unfold maxLen; omega
    · rw [List.getD_eq_getElem?_getD, List.getElem?_eq_none (by omega)]
      decide
  e := by
    obtain ⟨h1, h2, h3, h4, h5⟩ := h.e
    refine ⟨h1, h2, fun i => ?_, h4, h5⟩
    by_cases hi : i < es.length
    · have := h3 (es.getD i zE) (by simp [List.getD_eq_getElem?_getD, hi])
      unfold maxLen; omega
    · rw [List.getD_eq_getElem?_getD, List.getElem?_eq_none (by omega)]
      decide
/-- the rows of rows, by their numbers -/
def bkF (bl : List Bk) (i : Nat) : Option Addr × Nat × Nat := ((bl.getD i zB).1, (bl.getD i zB).2.1, (bl.getD i zB).2.2.1)
def bkX (bl : List Bk) (i : Nat) : List Int := (bl.getD i zB).2.2.2
theorem og_oi {w : World} {base : Nat} {v : Value} {xs : List Int} (h : OG 3 1 clI w base v xs) (hx : ∀ z ∈ xs, wfi z) : OI w base v xs := by
  unfold OG at h
  rw [flat_clI] at h
  exact ⟨h, hx⟩
theorem sumB_bkF (bl : List Bk) : ∀ n, n ≤ bl.length → sumB (bkF bl) n = ((bl.take n).map fun B => B.2.1).sum
  | 0, _ => by simp [sumB]
  | n + 1, h => by
    show sumB (bkF bl) n + (bkF bl n).2.1 = _
    have e : (bkF bl n).2.1 = (bl[n]'(by omega)).2.1 := by simp [bkF, List.getD_eq_getElem?_getD, show n < bl.length by omega]
    rw [sumB_bkF bl n (by omega), List.take_add_one, List.getElem?_eq_getElem (by omega), e]
    simp only [Option.toList_some, List.map_append, List.map_cons, List.map_nil, List.sum_append, List.sum_cons, List.sum_nil, Nat.add_zero]
theorem obk_rr {w : World} {base c : Nat} {a : Option Addr} {bl : List Bk} (h : OBk w base (.slice a bl.length c) bl) (hx : ∀ B ∈ bl, ∀ z ∈ B.2.2.2, wfi z) : Rr w base a bl.length (bkF bl) (bkX bl) := by
  have hmem : ∀ i, i < bl.length → bl.getD i zB ∈ bl := fun i hi => by simp [List.getD_eq_getElem?_getD, hi]
  have rows : ∀ i, i < bl.length → OI w base (.slice (bkF bl i).1 (bkF bl i).2.1 (bkF bl i).2.2) (bkX bl i) := fun i hi => og_oi (h.rows _ (hmem i hi)).2 (hx _ (hmem i hi))
  refine ⟨fun hn => ?_, rows, fun i j hi hj hij k hk => ?_⟩
  · obtain ⟨hl, ⟨h0, h1⟩ | ⟨g, cap, cur, hv, hg, hh, h1, h2, h3, h4⟩⟩ := h.head
    · exact absurd h1 hn
    · simp at hv
      refine ⟨g, cur, hv.1, fun ⟨i, hi, e⟩ => ?_, hh, fun i hi => ?_⟩
      · obtain ⟨c1, k1⟩ := own_kind (rows i hi).1 e
        exact absurd (blk_kind k1 hh) (by decide)
      · have : (cur.toList.take (bl.length * 1))[i]? = (bl.map fun B => Value.slice B.1 B.2.1 B.2.2.1)[i]? := by rw [h4]
        rw [List.getElem?_take] at this
        rw [if_pos (by omega)] at this
        rw [← Array.getElem?_toList, this]
        simp [bkF, List.getD_eq_getElem?_getD, hi]
  · have hp := List.pairwise_iff_getElem.1 h.apart
    have gi : bl.getD i zB = bl[i] := by simp [List.getD_eq_getElem?_getD, hi]
    have gj : bl.getD j zB = bl[j] := by simp [List.getD_eq_getElem?_getD, hj]
    unfold bkF at hk ⊢
    rw [gi] at hk
    rw [gj]
    rcases Nat.lt_or_gt_of_ne hij with h' | h'
    · exact hp i j hi hj h' k hk
    · exact fun e => hp j i hj hi h' k e hk
theorem ModO.m6 {W : World} {base : Nat} {P : PMod} {a1 : Option Addr} {c1 : Nat} {a2 : Option Addr} {c2 : Nat} {bl : List Bk} {a3 : Option Addr} {c3 : Nat} {a5 : Option Addr} {c5 : Nat} {a6 : Option Addr} {c6 : Nat} {a7 : Option Addr} {c7 : Nat} (h : ModO W base P a1 c1 a2 c2 bl a3 c3 a5 c5 a6 c6 a7 c7) (R : PmR P) :
    M6 W base (.slice a1 P.tz.length c1) (.slice a3 P.dz.length c3) (.slice a5 P.rz.length c5) (.slice a6 P.ss.length c6) (.slice a7 P.es.length c7) a2 bl.length (bkF bl) P.tz (bkX bl) P.dz P.rz P.ss P.es where
  t := og_oi h.t (fun z hz => wd_wfi (R.t.2 z hz))
  b := obk_rr h.b (fun B hB z hz => by
    have hm : B.2.2.2 ∈ P.bl := by rw [← h.bls]; exact List.mem_map.2 ⟨B, hB, rfl⟩
    exact wd_wfi ((R.b.2 _ hm).2 z hz))
  d := h.d
  r := og_oi h.r (fun z hz => by have := R.r.2 z hz; unfold wfi; omega)
  i := h.i
  e := h.e
  tr := h.tr
  tb := fun k hk ⟨i, hi, e⟩ => h.tb k hk _ (by simp [List.getD_eq_getElem?_getD, hi]) e
  rb := fun k hk ⟨i, hi, e⟩ => h.br k hk _ (by simp [List.getD_eq_getElem?_getD, hi]) e
theorem ModO.sum {W : World} {base : Nat} {P : PMod} {a1 : Option Addr} {c1 : Nat} {a2 : Option Addr} {c2 : Nat} {bl : List Bk} {a3 : Option Addr} {c3 : Nat} {a5 : Option Addr} {c5 : Nat} {a6 : Option Addr} {c6 : Nat} {a7 : Option Addr} {c7 : Nat} (h : ModO W base P a1 c1 a2 c2 bl a3 c3 a5 c5 a6 c6 a7 c7) : sumB (bkF bl) bl.length = (P.bl.map List.length).sum ∧ bl.length = P.bl.length := by
  refine ⟨?_, by rw [← h.bls, List.length_map]⟩
  rw [sumB_bkF bl bl.length (Nat.le_refl _), List.take_length, ← h.bls, List.map_map]
  congr 1
  apply List.map_congr_left
  intro B hB
  exact (h.b.rows B hB).1
theorem ModO.same {W W' : World} {base base' : Nat} {P : PMod} {a1 : Option Addr} {c1 : Nat} {a2 : Option Addr} {c2 : Nat} {bl : List Bk} {a3 : Option Addr} {c3 : Nat} {a5 : Option Addr} {c5 : Nat} {a6 : Option Addr} {c6 : Nat} {a7 : Option Addr} {c7 : Nat} {a1' : Option Addr} {c1' : Nat} {a2' : Option Addr} {c2' : Nat} {bl' : List Bk} {a3' : Option Addr} {c3' : Nat} {a5' : Option Addr} {c5' : Nat} {a6' : Option Addr} {c6' : Nat} {a7' : Option Addr} {c7' : Nat} (h : ModO W base P a1 c1 a2 c2 bl a3 c3 a5 c5 a6 c6 a7 c7) (h' : ModO W' base' P a1' c1' a2' c2' bl' a3' c3' a5' c5' a6' c6' a7' c7') : bl.length = bl'.length ∧ ∀ i, i < bl.length → (bl'.getD i zB).2.1 = (bl.getD i zB).2.1 ∧ (bl'.getD i zB).2.2.2 = (bl.getD i zB).2.2.2 := by
  have e : bl.map (fun B => B.2.2.2) = bl'.map (fun B => B.2.2.2) := h.bls.trans h'.bls.symm
  have hl : bl.length = bl'.length := by have := congrArg List.length e; simpa using this
  refine ⟨hl, fun i hi => ?_⟩
  have e2 : (bl.getD i zB).2.2.2 = (bl'.getD i zB).2.2.2 := by
    have := congrArg (fun l => l[i]?) e
    simp [hi, show i < bl'.length by omega] at this
    simpa [List.getD_eq_getElem?_getD, hi, show i < bl'.length by omega] using this
  have m1 : bl.getD i zB ∈ bl := by simp [List.getD_eq_getElem?_getD, hi]
  have m2 : bl'.getD i zB ∈ bl' := by simp [List.getD_eq_getElem?_getD, show i < bl'.length by omega]
  exact ⟨by rw [(h'.b.rows _ m2).1, (h.b.rows _ m1).1, e2], e2.symm⟩
/-- two readings of the same bytes are the same module -/
theorem eq_read {W : World} {base base' : Nat} {P : PMod} {a1 : Option Addr} {c1 : Nat} {a2 : Option Addr} {c2 : Nat} {bl : List Bk} {a3 : Option Addr} {c3 : Nat} {a5 : Option Addr} {c5 : Nat} {a6 : Option Addr} {c6 : Nat} {a7 : Option Addr} {c7 : Nat} {a1' : Option Addr} {c1' : Nat} {a2' : Option Addr} {c2' : Nat} {bl' : List Bk} {a3' : Option Addr} {c3' : Nat} {a5' : Option Addr} {c5' : Nat} {a6' : Option Addr} {c6' : Nat} {a7' : Option Addr} {c7' : Nat} (R : PmR P) (h : ModO W base P a1 c1 a2 c2 bl a3 c3 a5 c5 a6 c6 a7 c7) (h' : ModO W base' P a1' c1' a2' c2' bl' a3' c3' a5' c5' a6' c6' a7' c7') :
    Calls Try.prog 27 #[.agg #[.string P.nm, .slice a1 P.tz.length c1, .slice a2 bl.length c2, .slice a3 P.dz.length c3, .int .i64 P.bss, .slice a5 P.rz.length c5, .slice a6 P.ss.length c6, .slice a7 P.es.length c7], .agg #[.string P.nm, .slice a1' P.tz.length c1', .slice a2' bl'.length c2', .slice a3' P.dz.length c3', .int .i64 P.bss, .slice a5' P.rz.length c5', .slice a6' P.ss.length c6', .slice a7' P.es.length c7']] W fun e w' => e = .returned (.bool true) ∧ Below W.heap.size W w' := by
  have m := mt_of_md (h.md R)
  have m' := mt_of_md (h'.md R)
  obtain ⟨hl, hz⟩ := h.same h'
  rw [← hl] at m' ⊢
  exact eqModule_same _ _ _ _ _ _ _ _ _ _ _ _ _ _ _ _ _ _ _ _ _ _ _ _ _ _ _ _ _ _ _ _ _ _ _ _ _ _ _ _ m m' hz
end Go.Proofs.Ytngdgogjlpjjpac

namespace Go.Proofs.Ytngdgogjlpjjpac
open Go.RowKit
set_option linter.unusedVariables false
set_option linter.unusedSimpArgs false
set_option maxRecDepth 100000

set_option maxHeartbeats 8000000 in
theorem exactParseModule_walk (a : Option Addr) (n cap : Nat) (zs : List Int) (w : World) (h : BS w a n cap zs) :
    Calls Try.prog 7 #[.slice a n cap] w fun e w' => e = .returned (.bool true) ∧ Below w.heap.size w w' := by
  by_cases hbig : 1048576 < n
  · have hbig' : (1048576 : Int) < (n : Int) := by omega
    go_enter Try.func7, Try.ntmps7
    go_wp2
    go_ret
    exact ⟨rfl, Below.refl _ _⟩
  have hsm : ¬ (1048576 : Int) < (n : Int) := by omega
  have hz : Byt zs := h.2.2.1
  have hl := h.1
  have hmx : zs.length ≤ maxLen := by rw [hl]; exact h.2.1
  obtain ⟨hR, hsz⟩ := pOf_facts hz
  obtain ⟨P, hP⟩ : ∃ P, P = pOf zs := ⟨_, rfl⟩
  obtain ⟨C, hC⟩ : ∃ C, C = (prs zs).1 := ⟨_, rfl⟩
  have HT := hide (fun W (hb : Below w.heap.size w W) => toByteS_any a n cap zs W (h.below hb) (by omega))
  have HSP := hide (fun (W : World) (g : Nat) (r : Row8 W g zs) => (sParseModule_any g n n zs W (r.bs hmx hz n n hl) (by omega) r.lt).mono (fun e w' he => pa_mod he))
  have HIP := hide (fun (W : World) (g : Nat) (r : Row8 W g zs) => (iParseModule_any g n n zs W (r.bs hmx hz n n hl) (by omega) r.lt).mono (fun e w' he => pa_mod he))
  unfold PaM at HSP HIP
  rw [← hP, ← hC] at HSP HIP
  rw [← hP] at hR hsz
  have HR := hide hR
  clear hP hC h hR
  go_enter Try.func7, Try.ntmps7
  go_wp2_with fail
  refine (HT.out w (Below.refl _ _)).mono ?_
  rintro e w1 ⟨rfl, r1, hb1⟩
  go_wp2_with fail
  refine (HSP.out w1 w.heap.size r1).mono ?_
  rintro e w2 ⟨hb2, a1, c1, a2, c2, bl, a3, c3, a5, c5, a6, c6, a7, c7, rfl, MO⟩
  obtain ⟨b0, hb0⟩ : ∃ b0, b0 = w2.heap.size := ⟨_, rfl⟩
  have B2 := hb1.trans (hb2.mono hb1.size)
  have hs12 := hb2.size
  have hs01 := r1.lt
  have HB0w := hide (show w.heap.size ≤ b0 by omega)
  have hA : Below w2.heap.size w2 (w2.alloc (.cells #[.string P.nm, .slice a1 P.tz.length c1, .slice a2 bl.length c2, .slice a3 P.dz.length c3, .int .i64 P.bss, .slice a5 P.rz.length c5, .slice a6 P.ss.length c6, .slice a7 P.es.length c7] 56)) := (Below.refl _ _).alloc (Nat.le_refl _) _
  have k0 := Blk.new w2 #[.string P.nm, .slice a1 P.tz.length c1, .slice a2 bl.length c2, .slice a3 P.dz.length c3, .int .i64 P.bss, .slice a5 P.rz.length c5, .slice a6 P.ss.length c6, .slice a7 P.es.length c7] 56
  have M0 := MO.turn (S := fun _ => False) (turn_below hA) (fun k hk => absurd hk id)
  have B3 := B2.trans (hA.mono B2.size)
  have hsA : (w2.alloc (.cells #[.string P.nm, .slice a1 P.tz.length c1, .slice a2 bl.length c2, .slice a3 P.dz.length c3, .int .i64 P.bss, .slice a5 P.rz.length c5, .slice a6 P.ss.length c6, .slice a7 P.es.length c7] 56)).heap.size = b0 + 1 := by rw [hb0]; simp
  clear MO r1 hb1 hb2 hA B2
  unfold modV
  go_wp2_with fail
  rw [← hb0] at k0 ⊢
  have HB0 := hide hb0
  clear hb0
  generalize w2.alloc (.cells #[.string P.nm, .slice a1 P.tz.length c1, .slice a2 bl.length c2, .slice a3 P.dz.length c3, .int .i64 P.bss, .slice a5 P.rz.length c5, .slice a6 P.ss.length c6, .slice a7 P.es.length c7] 56) = W2 at *
  refine (HT.out W2 B3).mono ?_
  rw [hsA]
  rintro e w3 ⟨rfl, r3, hb3⟩
  have HW0 := hide (And.intro k0 M0)
  have HC := hide (Below.refl W2.heap.size W2)
  have B4 := B3.trans (hb3.mono (by have := B3.size; omega))
  have C4 : Below W2.heap.size W2 w3 := by have := hb3; rw [← hsA] at this; exact this
  clear k0 M0 B3 hb3 HC
  go_wp2_with fail
  refine (HIP.out w3 (b0 + 1) r3).mono ?_
  rintro e w4 ⟨hb4, e1, d1, e2, d2, bm, e3, d3, e5, d5, e6, d6, e7, d7, rfl, MO⟩
  obtain ⟨b1, hb1⟩ : ∃ b1, b1 = w4.heap.size := ⟨_, rfl⟩
  have hs3 := r3.lt
  have hs34 := hb4.size
  have hA : Below w4.heap.size w4 (w4.alloc (.cells #[.string P.nm, .slice e1 P.tz.length d1, .slice e2 bm.length d2, .slice e3 P.dz.length d3, .int .i64 P.bss, .slice e5 P.rz.length d5, .slice e6 P.ss.length d6, .slice e7 P.es.length d7] 56)) := (Below.refl _ _).alloc (Nat.le_refl _) _
  have k1 := Blk.new w4 #[.string P.nm, .slice e1 P.tz.length d1, .slice e2 bm.length d2, .slice e3 P.dz.length d3, .int .i64 P.bss, .slice e5 P.rz.length d5, .slice e6 P.ss.length d6, .slice e7 P.es.length d7] 56
  have L4 := (MO.m6 HR.out).lt
  have M1 := MO.turn (S := fun _ => False) (turn_below hA) (fun k hk => absurd hk id)
  have B5 := (B4.trans (hb4.mono B4.size)).trans (hA.mono (B4.trans (hb4.mono B4.size)).size)
  have C5 := (C4.trans (hb4.mono C4.size)).trans (hA.mono (C4.trans (hb4.mono C4.size)).size)
  have r5 := (r3.below hb4).below hA
  have hsB : (w4.alloc (.cells #[.string P.nm, .slice e1 P.tz.length d1, .slice e2 bm.length d2, .slice e3 P.dz.length d3, .int .i64 P.bss, .slice e5 P.rz.length d5, .slice e6 P.ss.length d6, .slice e7 P.es.length d7] 56)).heap.size = b1 + 1 := by rw [hb1]; simp
  rw [← hb1] at L4 k1 hs34
  have HL4 := hide L4
  have HW2 := hide (show b0 + 1 < w3.heap.size from hs3)
  obtain ⟨t3, ht3⟩ : ∃ t3, t3 = w3.heap.size := ⟨_, rfl⟩
  rw [← ht3] at M1 HL4 hs34 HW2
  clear MO hA hb4 B4 C4 r3 L4 hs3 ht3
  unfold modV
  have hW2 := HW2.out
  have HKM := hide (And.intro k1 M1)
  have HBC := hide (And.intro B5 (And.intro C5 r5))
  obtain ⟨p0, p1, p2, p3, p4, p5, p6, p7⟩ := (HW0.out.1.below C5).eight'
  obtain ⟨q0, q1, q2, q3, q4, q5, q6, q7⟩ := k1.eight'
  rw [hb1] at q0 q1 q2 q3 q4 q5 q6 q7
  clear k1 M1 B5 C5 r5
  go_wp2_with fail
  rw [← hb1]
  have HB1 := hide hb1
  clear hb1
  clear p0 p1 p2 p3 p4 p5 p6 p7 q0 q1 q2 q3 q4 q5 q6 q7
  generalize w4.alloc (.cells #[.string P.nm, .slice e1 P.tz.length d1, .slice e2 bm.length d2, .slice e3 P.dz.length d3, .int .i64 P.bss, .slice e5 P.rz.length d5, .slice e6 P.ss.length d6, .slice e7 P.es.length d7] 56) = W4 at *
  refine (eq_read HR.out HKM.out.2 (HW0.out.2.turn (S := fun _ => False) (turn_below HBC.out.2.1) (fun k hk => absurd hk id))).mono ?_
  rintro e w5 ⟨rfl, hb5⟩
  obtain ⟨k1, M1⟩ := HKM.out
  obtain ⟨B5, C5, r5⟩ := HBC.out
  have HKM6 := hide (And.intro (k1.below hb5) (M1.turn (S := fun _ => False) (turn_below hb5) (fun k hk => absurd hk id)))
  have HBC6 := hide (And.intro (B5.trans (hb5.mono B5.size)) (And.intro (C5.trans (hb5.mono C5.size)) (r5.below hb5)))
  have hs5 := hb5.size
  clear HKM HBC k1 M1 B5 C5 r5 hb5
  have hcc : (C != C) = false := by simp
  go_wp2_with fail
  refine (HT.out w5 HBC6.out.1).mono ?_
  rintro e w6 ⟨rfl, r6, hb6⟩
  obtain ⟨k1, M1⟩ := HKM6.out
  obtain ⟨B5, C5, r5⟩ := HBC6.out
  have HKM := hide (And.intro (k1.below hb6) (M1.turn (S := fun _ => False) (turn_below hb6) (fun k hk => absurd hk id)))
  have HBC := hide (And.intro (B5.trans (hb6.mono B5.size)) (And.intro (C5.trans (hb6.mono C5.size)) (r5.below hb6)))
  have HR6 := hide r6
  have hs6 := hb6.size
  clear HKM6 HBC6 k1 M1 B5 C5 r5 hb6 r6
  go_wp2_with fail
  refine (eqByteS_any (some ⟨b0 + 1, 0, none⟩) (some ⟨w5.heap.size, 0, none⟩) n n n n zs zs w6 (HBC.out.2.2.bs hmx hz n n hl) (HR6.out.bs hmx hz n n hl)).mono ?_
  rintro e w7 ⟨he, hb7⟩
  rw [decide_eq_true rfl] at he
  subst he
  obtain ⟨k1, M1⟩ := HKM.out
  obtain ⟨B5, C5, r5⟩ := HBC.out
  have HKM7 := hide (And.intro (k1.below hb7) (M1.turn (S := fun _ => False) (turn_below hb7) (fun k hk => absurd hk id)))
  have HBC7 := hide (And.intro (B5.trans (hb7.mono B5.size)) (And.intro (C5.trans (hb7.mono C5.size)) (r5.below hb7)))
  have hs7 := hb7.size
  clear HKM HBC k1 M1 B5 C5 r5 hb7 HR6
  go_wp2_with fail
  refine (markByteS_any (some ⟨b0 + 1, 0, none⟩) n n (b0 + 1) zs 1 w7 (row_obE HBC7.out.2.2 (Nat.le_refl _) hl (by rw [← hl]; exact hmx) hz) (by omega) (by omega)).mono ?_
  rintro e w8 ⟨rfl, _, T8⟩
  have T8' : Turn (fun j => j = b0 + 1) w7 w8 := T8.mono (fun j hj => by simp [Value.ownBlock] at hj; exact hj.symm)
  obtain ⟨k1, M1⟩ := HKM7.out
  obtain ⟨B5, C5, r5⟩ := HBC7.out
  have hw0 := HB0w.out
  have k1 := turn_blk T8' k1 (by omega)
  have M1 := M1.turn T8' (fun k hk => by omega)
  have B8 := below_turn B5 T8' (fun k hk => by omega) B5.size
  have C8 := below_turn C5 T8' (fun k hk => by omega) C5.size
  have hs8 := T8'.size
  have hk8 : ¬ (((1 + n : Nat) : Int) < 0) := by omega
  have HKM8 := hide (And.intro k1 M1)
  have HBC8 := hide (And.intro B8 C8)
  obtain ⟨p0, p1, p2, p3, p4, p5, p6, p7⟩ := (HW0.out.1.below C8).eight'
  obtain ⟨q0, q1, q2, q3, q4, q5, q6, q7⟩ := k1.eight'
  clear HKM7 HBC7 k1 M1 B5 C5 r5 T8 T8' B8 C8
  go_wp2_with fail
  refine (eq_read HR.out HKM8.out.2 (HW0.out.2.turn (S := fun _ => False) (turn_below HBC8.out.2) (fun k hk => absurd hk id))).mono ?_
  rintro e w9 ⟨rfl, hb9⟩
  obtain ⟨k1, M1⟩ := HKM8.out
  obtain ⟨B5, C5⟩ := HBC8.out
  have M9 := M1.turn (S := fun _ => False) (turn_below hb9) (fun k hk => absurd hk id)
  have k9 := k1.below hb9
  have hs9 := hb9.size
  have HBC9 := hide (And.intro (B5.trans (hb9.mono B5.size)) (C5.trans (hb9.mono C5.size)))
  clear HKM8 HBC8 k1 M1 B5 C5 hb9 p0 p1 p2 p3 p4 p5 p6 p7 q0 q1 q2 q3 q4 q5 q6 q7
  obtain ⟨hsu, hbl⟩ := M9.sum
  have hnn : P.tz.length + bm.length + sumB (bkF bm) bm.length + P.dz.length + P.rz.length + P.ss.length + P.es.length ≤ 524288 := by unfold szP at hsz; omega
  have hb1w : b1 < w9.heap.size := k9.lt
  have HMK := hide (markModule_any P.nm e1 P.tz.length d1 e2 bm.length d2 (bkF bm) e3 P.dz.length d3 P.bss e5 P.rz.length d5 e6 P.ss.length d6 e7 P.es.length d7 t3 _ _ _ _ _ _ _ w9 (M9.m6 HR.out) rfl hnn b1 (by omega) HL4.out)
  have HHD := hide (fun W h => heldModule_any P.nm e1 P.tz.length d1 e2 bm.length d2 (bkF bm) e3 P.dz.length d3 P.bss e5 P.rz.length d5 e6 P.ss.length d6 e7 P.es.length d7 t3 _ W h rfl hnn)
  obtain ⟨K, hK⟩ : ∃ K, K = 1 + P.tz.length + sumB (bkF bm) bm.length + P.dz.length + P.rz.length + P.ss.length + 3 * P.es.length := ⟨_, rfl⟩
  rw [← hK] at HMK HHD
  clear hK hsu hbl hnn M9
  obtain ⟨q0, q1, q2, q3, q4, q5, q6, q7⟩ := k9.eight'
  go_wp2_with fail
  refine HMK.out.mono ?_
  rintro e w10 ⟨rfl, M10, T10⟩
  have k10 := turn_blk T10 k9 (by omega)
  obtain ⟨B5, C5⟩ := HBC9.out
  have HBC10 := hide (And.intro (below_turn B5 T10 (fun k hk => by omega) B5.size) (below_turn C5 T10 (fun k hk => by omega) C5.size))
  have HM10 := hide M10
  have hs10 := T10.size
  clear HBC9 HMK B5 C5 T10 M10 k9 q0 q1 q2 q3 q4 q5 q6 q7
  obtain ⟨q0, q1, q2, q3, q4, q5, q6, q7⟩ := k10.eight'
  go_wp2_with fail
  refine (HHD.out w10 HM10.out).mono ?_
  rintro e w11 ⟨rfl, hb11⟩
  obtain ⟨B5, C5⟩ := HBC10.out
  have HBC11 := hide (And.intro (B5.trans (hb11.mono B5.size)) (C5.trans (hb11.mono C5.size)))
  have hs11 := hb11.size
  have hK0 : ¬ ((K : Int) < 0) := by omega
  have hKK : ((K : Int) != (K : Int)) = false := by simp
  clear HBC10 HHD B5 C5 hb11 k10 q0 q1 q2 q3 q4 q5 q6 q7 HM10
  go_wp2_with fail
  refine (HT.out w11 HBC11.out.1).mono ?_
  rintro e w12 ⟨rfl, r12, hb12⟩
  go_wp2_with fail
  refine (HIP.out w12 w11.heap.size r12).mono ?_
  rintro e w13 ⟨hb13, f1, g1, f2, g2, bh, f3, g3, f5, g5, f6, g6, f7, g7, rfl, MO⟩
  obtain ⟨B5, C5⟩ := HBC11.out
  have hA : Below w13.heap.size w13 (w13.alloc (.cells #[.string P.nm, .slice f1 P.tz.length g1, .slice f2 bh.length g2, .slice f3 P.dz.length g3, .int .i64 P.bss, .slice f5 P.rz.length g5, .slice f6 P.ss.length g6, .slice f7 P.es.length g7] 56)) := (Below.refl _ _).alloc (Nat.le_refl _) _
  have k2 := Blk.new w13 #[.string P.nm, .slice f1 P.tz.length g1, .slice f2 bh.length g2, .slice f3 P.dz.length g3, .int .i64 P.bss, .slice f5 P.rz.length g5, .slice f6 P.ss.length g6, .slice f7 P.es.length g7] 56
  have HM2 := hide (MO.turn (S := fun _ => False) (turn_below hA) (fun k hk => absurd hk id))
  have b12 := hb12.trans (hb13.mono hb12.size)
  have b13 := b12.trans (hA.mono b12.size)
  have B14 := B5.trans (b13.mono B5.size)
  have C14 := C5.trans (b13.mono C5.size)
  have HBC14 := hide (And.intro B14 C14)
  obtain ⟨p0, p1, p2, p3, p4, p5, p6, p7⟩ := (HW0.out.1.below C14).eight'
  obtain ⟨q0, q1, q2, q3, q4, q5, q6, q7⟩ := k2.eight'
  clear HBC11 B5 C5 hb12 hb13 r12 MO hA k2 b12 b13 B14 C14
  unfold modV
  go_wp2_with fail
  refine (eq_read HR.out HM2.out (HW0.out.2.turn (S := fun _ => False) (turn_below HBC14.out.2) (fun k hk => absurd hk id))).mono ?_
  rintro e w15 ⟨rfl, hb15⟩
  have HB15 := hide (HBC14.out.1.trans (hb15.mono HBC14.out.1.size))
  clear hb15 HBC14 p0 p1 p2 p3 p4 p5 p6 p7 q0 q1 q2 q3 q4 q5 q6 q7
  go_wp2
  go_ret
  exact ⟨rfl, HB15.out⟩
end Go.Proofs.Ytngdgogjlpjjpac
