import Derived.Test.YtngdgogjlpjjpadGreatJ29
namespace Go.Proofs.YtngdgogjlpjjpadGreat
open Go.RowKit
set_option linter.unusedVariables false
set_option linter.unusedSimpArgs false
set_option maxRecDepth 100000

theorem pm_bank {m : Md} {w : World} (h : m.md w) (k : Nat) (hk : k < m.bn) : (m.bl.getD k zB).2.1 = (m.pm.bl.getD k []).length ∧ m.pm.bl.length = m.bn := by
  have hb := h.b.1
  refine ⟨?_, by simp [Md.pm, hb]⟩
  have e : m.pm.bl.getD k [] = (m.bl.getD k zB).2.2.2 := getD_map _ _ _ zB _ (by omega)
  rw [e]
  exact (h.b.2.2.2.1 k hk).1.symm
theorem dec_true {p : Prop} [Decidable p] (h : p) : Ending.returned (.bool true) = Ending.returned (.bool (decide p)) := by rw [decide_eq_true h]
theorem dec_false {p : Prop} [Decidable p] (h : ¬ p) : Ending.returned (.bool false) = Ending.returned (.bool (decide p)) := by rw [decide_eq_false h]

set_option maxHeartbeats 4000000 in
theorem l5TooLong_any (a : Option Addr) (n cap : Nat) (ms : List Md) (s c k d : Int) (w : World) (h : MSD w a n cap ms) :
    Calls Tryz.prog 56 #[.slice a n cap, .agg #[.int .i64 s, .int .i64 c, .int .i64 k, .int .i64 d]] w fun e w' => e = .returned (.bool (decide (0 < s ∧ ¬ shrt (pmS ms) c))) ∧ Below w.heap.size w w' := by
  have hA : Below w.heap.size w (w.alloc (.cells #[.int .i64 s, .int .i64 c, .int .i64 k, .int .i64 d] 25)) := (Below.refl _ _).alloc (Nat.le_refl _) _
  have k0 := Blk.new w #[.int .i64 s, .int .i64 c, .int .i64 k, .int .i64 d] 25
  have hl := h.s.1
  have hm1 := h.s.2.1
  unfold maxLen at hm1
  have hpl := pmS_len ms
  have HH := hide h
  obtain ⟨R, hR⟩ : ∃ R, R = decide (0 < s ∧ ¬ shrt (pmS ms) c) := ⟨_, rfl⟩
  rw [← hR]
  have HR := hide hR
  clear hR
  have HB1 := hide (And.intro hA k0)
  clear h hA k0
  go_enter Tryz.func56, Tryz.ntmps56
  go_wp2
  go_loopw [5] (fun i wr => ∃ m : Nat, m ≤ n ∧ i = .int .i64 m ∧ (0 < s → ∀ j, j < m → ∀ k, k < ((pmS ms).getD j zP).bl.length → ((((pmS ms).getD j zP).bl.getD k []).length : Int) ≤ c) ∧ Below w.heap.size w wr ∧ Blk wr w.heap.size #[.int .i64 s, .int .i64 c, .int .i64 k, .int .i64 d] 25) (fun i _ => n - (intOf i).toNat)
  case atStart => exact ⟨0, Nat.zero_le _, rfl, fun _ j hj => absurd hj (by omega), HB1.out.1, HB1.out.2⟩
  case round =>
    obtain ⟨m, hm, rfl, hv, B, kk⟩ := hrel
    by_cases hlt : m < n
    · have hlt' : (m : Int) < (n : Int) := by omega
      have HV := hide hv
      have HB2 := hide (And.intro B kk)
      clear hv B kk HB1
      go_wp2
      go_loopw [6] (fun i wr => ∃ q : Nat, q ≤ (ms.getD m zMd).bn ∧ i = .int .i64 q ∧ (0 < s → ∀ k, k < q → ((((pmS ms).getD m zP).bl.getD k []).length : Int) ≤ c) ∧ Below w.heap.size w wr ∧ Blk wr w.heap.size #[.int .i64 s, .int .i64 c, .int .i64 k, .int .i64 d] 25) (fun i _ => (ms.getD m zMd).bn - (intOf i).toNat)
      case atStart => exact ⟨0, Nat.zero_le _, rfl, fun _ j hj => absurd hj (by omega), HB2.out.1, HB2.out.2⟩
      case round =>
        obtain ⟨q, hq, rfl, hw, B, kk⟩ := hrel
        have H := HH.out.below B
        obtain ⟨b, off, rfl, q0, q1, q2, _⟩ := H.s.at m hlt
        have hmd := H.d m hlt
        have hbl : ((pmS ms).getD m zP).bl.length = (ms.getD m zMd).bn := by rw [pmS_at (by omega)]; show (List.map _ _).length = _; rw [List.length_map]; exact hmd.b.1
        have HW := hide hw
        have hbn : (ms.getD m zMd).bn ≤ 9223372036854775807 := by have := hmd.b.2.1; unfold maxLen at this; omega
        by_cases hlt2 : q < (ms.getD m zMd).bn
        · have hlt2' : (q : Int) < ((ms.getD m zMd).bn : Int) := by omega
          obtain ⟨_, _, hcb, hrb, _⟩ := hmd.b
          obtain ⟨b2, off2, hba, hc⟩ := hcb (by omega)
          have c0 := hc q hlt2
          have hlen := (pm_bank hmd q hlt2).1
          rw [← pmS_at (by omega)] at hlen
          rw [hba] at q2
          have y0 : wr.cell? ⟨w.heap.size, 0, none⟩ = some (.int .i64 s) := kk.cell 0
          have y1 : wr.cell? ⟨w.heap.size, 1, none⟩ = some (.int .i64 c) := kk.cell 1
          have HB3 := hide (And.intro B kk)
          obtain ⟨L, hL⟩ : ∃ L : Nat, L = (((pmS ms).getD m zP).bl.getD q []).length := ⟨_, rfl⟩
          rw [← hL] at hlen
          rw [hlen] at c0
          have hmx : L ≤ 9223372036854775807 := by have := (hrb q hlt2).2.1; rw [hlen] at this; unfold maxLen at this; omega
          have HSH := hide (show (0 < s → (L : Int) ≤ c) → 0 < s → ∀ k, k < q + 1 → ((((pmS ms).getD m zP).bl.getD k []).length : Int) ≤ c from fun h1 h2 k hk => by
            by_cases e : k = q
            · subst e; rw [← hL]; exact h1 h2
            · exact HW.out h2 k (by omega))
          have HBD := hide (show 0 < s → c < (L : Int) → 0 < s ∧ ¬ shrt (pmS ms) c from fun h1 h2 => ⟨h1, fun hs => by have := hs m (by omega) q (by omega); rw [← hL] at this; omega⟩)
          generalize (ms.getD m zMd).bl.getD q zB = bq at *
          generalize (ms.getD m zMd).bn = bn at *
          obtain ⟨bq1, bq2, bq3, bq4⟩ := bq
          dsimp only at c0 hlen
          clear hw B H hmd hbl hba hc hcb hrb hL hlen q0 q1 kk
          by_cases hs0 : 0 < s
          · by_cases hcl : c < (L : Int)
            · have HF := hide (HBD.out hs0 hcl)
              go_wp2_with fail
              go_quiet (fail)
              go_wp2
              go_ret
              exact ⟨ret_bool (by rw [HR.out, decide_eq_true HF.out]), below_dN HB3.out.1 nq⟩
            · have HF := hide (HSH.out (fun _ => by omega))
              go_wp2_with fail
              go_quiet (fail)
              go_wp2
              go_roundw
              case rel => exact ⟨q + 1, by omega, by go_num, HF.out, below_dN HB3.out.1 nq, HB3.out.2⟩
              case measure => simp [intOf]; omega
          · have HF := hide (HSH.out (fun e => absurd e hs0))
            have hs2 : decide (0 < s) = false := decide_eq_false hs0
            go_wp2_with fail
            go_quiet (fail)
            go_wp2
            go_roundw
            case rel => exact ⟨q + 1, by omega, by go_num, HF.out, below_dN HB3.out.1 nq, HB3.out.2⟩
            case measure => simp [intOf]; omega
        · have hlt2' : ¬ (q : Int) < ((ms.getD m zMd).bn : Int) := by omega
          have HV2 := hide (show 0 < s → ∀ j, j < m + 1 → ∀ k, k < ((pmS ms).getD j zP).bl.length → ((((pmS ms).getD j zP).bl.getD k []).length : Int) ≤ c from fun h1 j hj k hk => by
            by_cases e : j = m
            · subst e; exact HW.out h1 k (by omega)
            · exact HV.out h1 j (by omega) k hk)
          have HB3 := hide (And.intro B kk)
          generalize (ms.getD m zMd).bn = bn at *
          clear hw B H hmd hbl q0 q1 kk
          go_wp2
          go_roundw
          case rel => exact ⟨m + 1, by omega, by go_num, HV2.out, HB3.out.1, HB3.out.2⟩
          case measure => simp [intOf]; omega
    · have hlt' : ¬ (m : Int) < (n : Int) := by omega
      have HF := hide (show ¬ (0 < s ∧ ¬ shrt (pmS ms) c) from fun h => h.2 (fun i hi k hk => hv h.1 i (by omega) k hk))
      have HB2 := hide B
      clear hv B kk HB1
      go_wp2
      go_ret
      exact ⟨ret_bool (by rw [HR.out, decide_eq_false HF.out]), HB2.out⟩
end Go.Proofs.YtngdgogjlpjjpadGreat

namespace Go.Proofs.YtngdgogjlpjjpadGreat
open Go.RowKit
set_option linter.unusedVariables false
set_option linter.unusedSimpArgs false
set_option maxRecDepth 100000

theorem rnd_range {x : Int} (h : 0 ≤ x) : x ≤ rnd x ∧ rnd x ≤ x + 31 := by unfold rnd; omega
theorem tsz_range {P : PMod} (h : mdoP P = 0) : 0 ≤ tsz P ∧ tsz P ≤ 831 := by
  have h1 := (vld_en h).2.2.1
  have := rnd_range (x := 4 * (P.tz.length : Int)) (by omega)
  unfold tsz
  omega
theorem fsum_range {P : PMod} (h : mdoP P = 0) : ∀ k, k ≤ P.bl.length → 0 ≤ fsum P k ∧ fsum P k ≤ (k : Int) * 287
  | 0, _ => by simp [fsum]
  | k + 1, hk => by
    have ih := fsum_range h k (by omega)
    have h1 := (vld_en h).2.2.2.2.2.2.2 k (by omega)
    have := rnd_range (x := 4 * ((P.bl.getD k []).length : Int)) (by omega)
    show 0 ≤ fsum P k + rnd (4 * ((P.bl.getD k []).length : Int)) ∧ fsum P k + rnd (4 * ((P.bl.getD k []).length : Int)) ≤ _
    push_cast
    omega
theorem dsz_range {P : PMod} (h : mdoP P = 0) : 0 ≤ dsz P ∧ dsz P ≤ 1055 := by
  obtain ⟨_, _, _, _, h5, h6, h7, _⟩ := vld_en h
  have := rnd_range (x := (P.dz.length : Int) + P.bss) (by omega)
  unfold dsz
  omega
theorem Fl_range {ps : List PMod} (h : vlds ps) : ∀ i, i ≤ ps.length → 0 ≤ Fl ps i ∧ Fl ps i ≤ (i : Int) * 1979
  | 0, _ => by simp [Fl]
  | i + 1, hi => by
    have ih := Fl_range h i (by omega)
    have hv := h i (by omega)
    have h1 := tsz_range hv
    have h2 := fsum_range hv _ (Nat.le_refl _)
    have h3 := (vld_en hv).2.2.2.1
    show 0 ≤ Fl ps i + (tsz (ps.getD i zP) + fsum (ps.getD i zP) (ps.getD i zP).bl.length) ∧ Fl ps i + (tsz (ps.getD i zP) + fsum (ps.getD i zP) (ps.getD i zP).bl.length) ≤ _
    push_cast
    omega
theorem Ra_range {ps : List PMod} (h : vlds ps) : ∀ i, i ≤ ps.length → 0 ≤ Ra ps i ∧ Ra ps i ≤ (i : Int) * 1055
  | 0, _ => by simp [Ra]
  | i + 1, hi => by
    have ih := Ra_range h i (by omega)
    have h1 := dsz_range (h i (by omega))
    show 0 ≤ Ra ps i + dsz (ps.getD i zP) ∧ Ra ps i + dsz (ps.getD i zP) ≤ _
    push_cast
    omega
theorem kind_no {w : World} {base n sz : Nat} {t t' : TypeId} {v : Value} {xs : List Value} {k : Nat} {cs : Array Value} (h : w.ownsRow base t sz v n xs) (hk : v.ownBlock = some k) (hb : Blk w k cs t') (hne : t ≠ t') : False := by
  obtain ⟨c1, k1⟩ := own_kind h hk
  exact hne (blk_kind k1 hb)
def zL : Array Value := #[.slice none 0 0, .int .i64 0, .slice none 0 0, .int .i64 0, .int .i64 0, .slice none 0 0]
/-- THE BOXES OF l5Lay: the configuration, the answer, the layout -/
structure Lst (w W : World) (s c k d : Int) (cs : Array Value) : Prop where
  be : Below w.heap.size w W
  k0 : Blk W w.heap.size #[.int .i64 s, .int .i64 c, .int .i64 k, .int .i64 d] 25
  k1 : Blk W (w.heap.size + 1) zL 32
  k5 : Blk W (w.heap.size + 5) cs 32
theorem Lst.below {w W W' : World} {s c k d : Int} {cs : Array Value} (h : Lst w W s c k d cs) (hb : Below W.heap.size W W') : Lst w W' s c k d cs := ⟨h.be.trans (hb.mono h.be.size), h.k0.below hb, h.k1.below hb, h.k5.below hb⟩
theorem Lst.set {w W : World} {s c k d : Int} {cs : Array Value} (h : Lst w W s c k d cs) (i : Nat) (v : Value) : Lst w (W.setCell ⟨w.heap.size + 5, i, none⟩ v) s c k d (cs.setIfInBounds i v) :=
  ⟨below_turn h.be (turn_set W (w.heap.size + 5) i v) (fun k hk => by omega) h.be.size, turn_blk (turn_set W (w.heap.size + 5) i v) h.k0 (by omega), turn_blk (turn_set W (w.heap.size + 5) i v) h.k1 (by omega), h.k5.set i v⟩
theorem Lst.other {w W : World} {s c k d : Int} {cs : Array Value} (h : Lst w W s c k d cs) {g : Nat} (hg : w.heap.size + 6 ≤ g) (i : Nat) (v : Value) : Lst w (W.setCell ⟨g, i, none⟩ v) s c k d cs :=
  ⟨below_turn h.be (turn_set W g i v) (fun k hk => by omega) h.be.size, turn_blk (turn_set W g i v) h.k0 (by omega), turn_blk (turn_set W g i v) h.k1 (by omega), turn_blk (turn_set W g i v) h.k5 (by omega)⟩
theorem Lst.grown {w W W' : World} {s c k d : Int} {cs : Array Value} {row : Option Nat} (h : Lst w W s c k d cs) (hg : W.grownBy W' row) (hr : ∀ j, row = some j → w.heap.size + 2 ≤ j ∧ j ≠ w.heap.size + 5) : Lst w W' s c k d cs := by
  have t : Turn (fun j => row = some j) W W' := ⟨hg.os, hg.tape, hg.output, hg.size, fun j hj hs => hg.block j hj (fun e => hs e.symm)⟩
  exact ⟨below_turn h.be t (fun j hj => by have := hr j hj; omega) h.be.size, turn_blk t h.k0 (fun e => by have := hr _ e; omega), turn_blk t h.k1 (fun e => by have := hr _ e; omega), turn_blk t h.k5 (fun e => by have := hr _ e; omega)⟩
theorem Lst.sz {w W : World} {s c k d : Int} {cs : Array Value} (h : Lst w W s c k d cs) : w.heap.size + 6 ≤ W.heap.size := h.k5.lt
theorem Lst.dN {w W : World} {s c k d : Int} {cs : Array Value} (h : Lst w W s c k d cs) (n : Nat) : Lst w (W.drewN n) s c k d cs := ⟨below_dN h.be n, h.k0, h.k1, h.k5⟩
theorem Lst.drew {w W : World} {s c k d : Int} {cs : Array Value} (h : Lst w W s c k d cs) : Lst w W.drew s c k d cs := ⟨h.be.drew, h.k0, h.k1, h.k5⟩
/-- THE ROWS OF l5Lay -/
structure Lrw (w W : World) (ps : List PMod) (m : Nat) (a0 : Option Addr) (c0 : Nat) (xs : List PB) (a5 : Option Addr) (c5 : Nat) (ts : List TB) : Prop where
  P : OPl W (w.heap.size + 2) (w.heap.size + 6) (.slice a0 m c0) xs
  T : OTg W (w.heap.size + 2) (w.heap.size + 6) (.slice a5 m c5) ts
  S : OG 3 1 clI W (w.heap.size + 2) (.slice (some ⟨w.heap.size + 3, 0, none⟩) 0 0) []
  pl : xs.length = m
  tl : ts.length = m
  px : xs.map (fun x => x.1) = (List.range m).map (plc ps)
  tx : ts.map (fun x => x.1) = (List.range m).map fun i => tgs ps (ps.getD i zP)
/-- what l5Lay turns besides new blocks -/
def Lg (w : World) (j : Nat) : Prop := j = w.heap.size + 5
theorem Lrw.kept {w W W' : World} {s c k d : Int} {cs : Array Value} {ps : List PMod} {m : Nat} {a0 : Option Addr} {c0 : Nat} {xs : List PB} {a5 : Option Addr} {c5 : Nat} {ts : List TB} (h : Lrw w W ps m a0 c0 xs a5 c5 ts) (L : Lst w W s c k d cs) (t : Turn (Lg w) W W') : Lrw w W' ps m a0 c0 xs a5 c5 ts := by
  have k5 := L.k5
  refine ⟨h.P.kept t (fun k hk e => ?_) (fun x hx k hk e => ?_), h.T.kept t (fun k hk e => ?_) (fun x hx k hk e => ?_), h.S.kept t (fun k hk e => ?_), h.pl, h.tl, h.px, h.tx⟩
  · rw [show k = w.heap.size + 5 from e] at hk; exact kind_no h.P.head hk k5 (by decide)
  · rw [show k = w.heap.size + 5 from e] at hk; exact kind_no (h.P.rows x hx) hk k5 (by decide)
  · rw [show k = w.heap.size + 5 from e] at hk; exact kind_no h.T.head hk k5 (by decide)
  · rw [show k = w.heap.size + 5 from e] at hk; exact kind_no (h.T.rows x hx) hk k5 (by decide)
  · rw [show k = w.heap.size + 5 from e] at hk; exact kind_no h.S hk k5 (by decide)
theorem Lrw.below {w W W' : World} {ps : List PMod} {m : Nat} {a0 : Option Addr} {c0 : Nat} {xs : List PB} {a5 : Option Addr} {c5 : Nat} {ts : List TB} (h : Lrw w W ps m a0 c0 xs a5 c5 ts) (hb : Below W.heap.size W W') : Lrw w W' ps m a0 c0 xs a5 c5 ts := ⟨h.P.below hb, h.T.below hb, h.S.below hb, h.pl, h.tl, h.px, h.tx⟩
/-- banks' addresses, so far -/
def bks (ps : List PMod) (i k : Nat) : List Int := (List.range k).map fun j => Fl ps i + tsz (ps.getD i zP) + fsum (ps.getD i zP) j
theorem bks_len (ps : List PMod) (i k : Nat) : (bks ps i k).length = k := by simp [bks]
theorem bks_succ (ps : List PMod) (i k : Nat) : bks ps i (k + 1) = bks ps i k ++ [Fl ps i + tsz (ps.getD i zP) + fsum (ps.getD i zP) k] := by simp [bks, List.range_succ]
theorem clI_flat_one (z : Int) : clI z = [Value.int .i64 z] := rfl
end Go.Proofs.YtngdgogjlpjjpadGreat
