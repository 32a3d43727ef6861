import Derived.Maps.OwnSet
import Derived.Test.YtngdgogjlpjjpaeGreatGa05
import Derived.Test.YtngdgogjlpjjpaeGreatGa03
import Derived.Deep.RegionWith
import Derived.Test.YtngdgogjlpjjpaeGreatGa04
import Derived.Test.YtngdgogjlpjjpaeGreatGa06
namespace Go.Proofs.YtngdgogjlpjjpaeGreat
open Go Go.Maps Go.WideShapes
set_option linter.unusedSimpArgs false

/-- Names at positions, each at the first position that has it: a map. -/
def fd (f : Nat → List UInt8) : Nat → DataW Unit
  | 0 => .map []
  | k + 1 => if has (fd f k) (.string (f k)) then fd f k else (fd f k).put (.string (f k)) (.lit (.int .i64 k))
theorem fd_succ (f : Nat → List UInt8) (k : Nat) : fd f (k + 1) = if has (fd f k) (.string (f k)) then fd f k else (fd f k).put (.string (f k)) (.lit (.int .i64 k)) := rfl
theorem key_str (s : List UInt8) : WideAt.IsKeyLit (.string s) := by simp [WideAt.IsKeyLit]
theorem fd_tidy (f : Nat → List UInt8) : ∀ k, Tidy (fd f k)
  | 0 => tidy_empty
  | k + 1 => by
    rw [fd_succ]
    split
    · exact fd_tidy f k
    · exact (fd_tidy f k).put (key_str _) _
theorem fd_has (f : Nat → List UInt8) (s : List UInt8) : ∀ k, has (fd f k) (.string s) = (List.range k).any (fun j => f j == s)
  | 0 => rfl
  | k + 1 => by
    rw [List.range_succ, List.any_append, ← fd_has f s k]
    rw [fd_succ]
    by_cases e : f k = s
    · subst e
      split
      · rename_i h; rw [h]; rfl
      · rw [has_put_same (fd_tidy f k).isMap (key_str _)]; simp
    · have e' : (Lit.string s) ≠ .string (f k) := by intro h; injection h with h; exact e h.symm
      split
      · simp [e]
      · rw [has_put_other e']; simp [e]
theorem fd_size_le (f : Nat → List UInt8) : ∀ k, size (fd f k) ≤ k
  | 0 => Nat.le_refl _
  | k + 1 => by
    have := fd_size_le f k
    rw [fd_succ]
    split
    · omega
    · rename_i h
      rw [size_put (fd_tidy f k), if_neg h]
      omega
theorem fd_size (f : Nat → List UInt8) : ∀ k, decide (size (fd f k) = k) = (List.range k).all (fun i => (List.range i).all fun j => !(f j == f i))
  | 0 => rfl
  | k + 1 => by
    have h1 := fd_size_le f k
    rw [List.range_succ, List.all_append, ← fd_size f k]
    have hh := fd_has f (f k) k
    have e : (List.range k).all (fun j => !(f j == f k)) = !(has (fd f k) (.string (f k))) := by rw [hh]; induction List.range k with | nil => rfl | cons a l ih => simp [ih]
    simp only [List.all_cons, List.all_nil, Bool.and_true, e]
    rw [fd_succ]
    cases hb : has (fd f k) (.string (f k))
    · rw [if_neg (by simp), size_put (fd_tidy f k), hb, if_neg (by simp)]
      simp
    · rw [if_pos rfl]
      simp
      omega
/-- the first position that has the name -/
def fst? (f : Nat → List UInt8) (s : List UInt8) : Nat → Option Nat
  | 0 => none
  | k + 1 => match fst? f s k with | some j => some j | none => if f k = s then some k else none
theorem fst_succ (f : Nat → List UInt8) (s : List UInt8) (k : Nat) : fst? f s (k + 1) = match fst? f s k with | some j => some j | none => if f k = s then some k else none := rfl
theorem fst_has (f : Nat → List UInt8) (s : List UInt8) : ∀ k, (fst? f s k).isSome = has (fd f k) (.string s)
  | 0 => rfl
  | k + 1 => by
    rw [fd_has, List.range_succ, List.any_append, ← fd_has, ← fst_has f s k]
    rw [fst_succ]
    cases fst? f s k with
    | some j => simp
    | none => by_cases e : f k = s <;> simp [e]
theorem fd_at (f : Nat → List UInt8) (s : List UInt8) (z : DataW Unit) : ∀ k, (fd f k).atKey (.string s) z = match fst? f s k with | some j => .lit (.int .i64 j) | none => z
  | 0 => rfl
  | k + 1 => by
    have ih := fd_at f s z k
    have hh := fst_has f s k
    rw [fst_succ, fd_succ]
    by_cases e : f k = s
    · subst e
      cases hf : fst? f (f k) k with
      | some j => rw [hf] at hh ih; simp only [Option.isSome_some] at hh; rw [if_pos hh.symm]; simpa using ih
      | none => rw [hf] at hh; simp only [Option.isSome_none] at hh; rw [if_neg (by rw [← hh]; simp), atKey_put_same (fd_tidy f k).isMap (key_str _)]; simp
    · have e' : (Lit.string s) ≠ .string (f k) := by intro h; injection h with h; exact e h.symm
      split <;> (cases hf : fst? f s k with
        | some j => rw [hf] at ih; simpa [atKey_put_other e'] using ih
        | none => rw [hf] at ih; simpa [atKey_put_other e', e] using ih)
end Go.Proofs.YtngdgogjlpjjpaeGreat

namespace Go.Proofs.YtngdgogjlpjjpaeGreat
open Go.RowKit Go.Maps
set_option linter.unusedVariables false
set_option linter.unusedSimpArgs false
set_option maxRecDepth 100000

theorem lawS : Keyed Tryz.prog 9 := string_keyed Tryz.underlying9
theorem zeroI (w : World) : (zeroValue 3).run Tryz.prog w = .ok (.int .i64 0) w := by kernel_rfl
theorem exportName_any (s : ByteArray) (b i : Int) (w : World) :
    Calls Tryz.prog 272 #[.agg #[.string s, .int .i64 b, .int .i64 i]] w fun e w' => e = .returned (.string s) ∧ Below w.heap.size w w' := by
  go_enter Tryz.func272, Tryz.ntmps272
  go_wp2
  go_ret
  exact ⟨rfl, (Below.refl _ _).alloc (Nat.le_refl _) _⟩
theorem run_makeMap_room (x : Int) (w : World) : (Instr.makeMap 262 (some (.int .i64 x))).run Tryz.prog w = .ok (.map (some w.heap.size)) (w.alloc (.map #[] 0)) := by
  simp [Instr.makeMap, asInt, asIntOf, run_underlying Tryz.underlying262, Result.andThen]
/-- the bytes of the name of export number i -/
def exNm (es : List Ex) (i : Nat) : List UInt8 := (es.getD i zE).1.data.toList

set_option maxHeartbeats 2000000 in
theorem firstOfE_any (ea : Option Addr) (n ec : Nat) (es : List Ex) (w : World) (h : ES w ea n ec es) (hn : n ≤ 1048576) :
    Calls Tryz.prog 271 #[.slice ea n ec, .func (.func 272) #[] #[]] w fun e w' => e = .returned (.map (some w.heap.size)) ∧ w'.ownsMap Tryz.prog 9 (plainElem Tryz.prog 3) w.heap.size n (fd (exNm es) n) ∧ Below w.heap.size w w' := by
  have hmm := run_makeMap_room
  have hm1 := h.2.1
  unfold maxLen at hm1
  go_enter Tryz.func271, Tryz.ntmps271
  go_wp2
  go_loopw [16] (fun i wr => ∃ k : Nat, k ≤ n ∧ i = .int .i64 k ∧ wr.ownsMap Tryz.prog 9 (plainElem Tryz.prog 3) w.heap.size k (fd (exNm es) k) ∧ Below w.heap.size w wr) (fun i _ => n - (intOf i).toNat)
  case atStart => exact ⟨0, Nat.zero_le _, rfl, World.ownsMap_made _ _ _ _, (Below.refl _ _).alloc (Nat.le_refl _) _⟩
  case round =>
    obtain ⟨k, hk, rfl, hown, hB⟩ := hrel
    by_cases hlt : k < n
    · have hlt' : (k : Int) < (n : Int) := by omega
      obtain ⟨bb, off, rfl⟩ := h.addr (by omega)
      obtain ⟨y1, y2, y3⟩ := (h.below hB).at k hlt
      have hsz := h.size k
      have HX := hide (fd_succ (exNm es) k)
      have hkl : exNm es k = (es.getD k zE).1.data.toList := rfl
      rw [hkl] at HX
      clear hkl
      generalize es.getD k zE = E at *
      obtain ⟨en, eb, ei⟩ := E
      dsimp only at y1 y2 y3 hsz HX
      have hkey : keyOf Tryz.prog 9 (.string en) = some (.string en.data.toList) := Go.WideMaps.keyOf_string_mk Tryz.underlying9 (by unfold maxLen; omega)
      have HKEY := hide hkey
      clear hkey
      have hA : Below wr.heap.size wr (wr.alloc (.cells #[.string en, .int .i64 eb, .int .i64 ei] 207)) := (Below.refl _ _).alloc (Nat.le_refl _) _
      go_wp2_with fail
      refine (exportName_any en eb ei _).mono ?_
      rintro e w1 ⟨rfl, hb1⟩
      have hb1' := hA.trans (hb1.mono hA.size)
      have hB1 := hB.trans (hb1'.mono hB.size)
      have hown1 : w1.ownsMap Tryz.prog 9 (plainElem Tryz.prog 3) w.heap.size k (fd (exNm es) k) := by
        obtain ⟨es', cl, hh, r⟩ := hown
        refine ⟨es', cl, ?_, r⟩
        have hl : w.heap.size < wr.heap.size := by
          rcases Nat.lt_or_ge w.heap.size wr.heap.size with h' | h'
          · exact h'
          · rw [Array.getElem?_eq_none h'] at hh; cases hh
        rw [hb1'.block _ hl]
        exact hh
      clear hown hA hb1 hb1' y1 y2 y3
      cases hh : has (fd (exNm es) k) (.string en.data.toList)
      · rw [hh] at HX
        go_wp2_with (first
          | (at_lookup; refine wpList_lookup_own_ok_int _ rfl _ _ 262 rfl 9 3 .i64 lawS Tryz.underlying262 Tryz.underlying3 (zeroI _) w.heap.size k _ rfl hown1 _ _ rfl HKEY.out ?_; intro c hat hwc; clear hat; rw [hh])
          | (at_mapUpdate; refine wpList_mapUpdate_own _ rfl _ _ _ 262 rfl 9 3 lawS Tryz.underlying262 _ w.heap.size k _ rfl hown1 (by unfold maxLen; omega) _ _ _ rfl rfl HKEY.out _ [] (plainElem_int Tryz.underlying3 (WalkArith.wf_i64 (by omega))) ?_; intro w2 hown2 hgr2))
        have HO := hide hown2
        have HB2 := hide (hB1.grown hgr2 hB1.size (fun j hj => by cases hj; exact Nat.le_refl _))
        clear hown2 hgr2 hown1
        go_wp2
        go_roundw
        case rel => exact ⟨k + 1, by omega, by go_num, by have := HO.out; rw [HX.out, if_neg (by simp)]; exact this, HB2.out⟩
        case measure => simp [intOf]; omega
      · rw [hh] at HX
        go_wp2_with (first
          | (at_lookup; refine wpList_lookup_own_ok_int _ rfl _ _ 262 rfl 9 3 .i64 lawS Tryz.underlying262 Tryz.underlying3 (zeroI _) w.heap.size k _ rfl hown1 _ _ rfl HKEY.out ?_; intro c hat hwc; clear hat; rw [hh]))
        have HO := hide hown1
        clear hown1
        go_wp2
        go_roundw
        case rel => exact ⟨k + 1, by omega, by go_num, by have := HO.out; rw [HX.out, if_pos trivial]; exact this.mono (by omega), hB1⟩
        case measure => simp [intOf]; omega
    · have e : Hid (k = n) := by show k = n; omega
      go_wp2
      go_ret
      exact ⟨rfl, by rw [e.out] at hown; exact hown, hB⟩
end Go.Proofs.YtngdgogjlpjjpaeGreat

namespace Go.Proofs.YtngdgogjlpjjpaeGreat
open Go.RowKit Go.Maps
set_option linter.unusedVariables false
set_option linter.unusedSimpArgs false
set_option maxRecDepth 100000

theorem exn_size (es : List Ex) (n : Nat) : (List.range n).all (exn es) = decide (size (fd (exNm es) n) = n) := by
  rw [fd_size]
  congr 1
  funext i
  unfold exn exNm
  congr 1
  funext j
  rw [ByteArray.toList_eq, ByteArray.toList_eq]
theorem exo_last (tn bn : Nat) (bl : List Bk) (n : Nat) (es : List Ex) (h : ∀ j, j < n → ex1 tn bn bl (es.getD j zE) = true) : (List.range n).all (fun i => ex1 tn bn bl (es.getD i zE) && exn es i) = decide (size (fd (exNm es) n) = n) := by
  rw [← exn_size, Bool.eq_iff_iff, List.all_eq_true, List.all_eq_true]
  constructor
  · intro H i hi
    have := H i hi
    simp only [Bool.and_eq_true] at this
    exact this.2
  · intro H i hi
    rw [h i (by simpa using hi), H i hi]
    rfl

set_option maxHeartbeats 4000000 in
theorem exportsOk_any (nm : ByteArray) (ta : Option Addr) (tn tc : Nat) (ba : Option Addr) (bn bc : Nat) (bl : List Bk) (v3 v5 v6 : Value) (bss : Int) (ea : Option Addr) (n ec : Nat) (es : List Ex) (w : World) (htn : tn ≤ maxLen) (hb : BKS w ba bn bc bl) (h : ES w ea n ec es) :
    Calls Tryz.prog 268 #[.agg #[.string nm, .slice ta tn tc, .slice ba bn bc, v3, .int .i64 bss, v5, v6, .slice ea n ec]] w fun e w' => e = .returned (.bool (exo tn bn bl n es)) ∧ Below w.heap.size w w' := by
  obtain ⟨W, hW⟩ : ∃ W, W = w.alloc (.cells #[.string nm, .slice ta tn tc, .slice ba bn bc, v3, .int .i64 bss, v5, v6, .slice ea n ec] 104) := ⟨_, rfl⟩
  have hB0 : Below w.heap.size w W := by rw [hW]; exact (Below.refl _ _).alloc (Nat.le_refl _) _
  have kb : Blk W w.heap.size #[.string nm, .slice ta tn tc, .slice ba bn bc, v3, .int .i64 bss, v5, v6, .slice ea n ec] 104 := by rw [hW]; exact Blk.new _ _ _
  obtain ⟨q0, q1, q2, q3, q4, q5, q6, q7⟩ := kb.eight
  obtain ⟨r, hr⟩ : ∃ r, r = exo tn bn bl n es := ⟨_, rfl⟩
  rw [← hr]
  unfold exo at hr
  have hm1 := h.2.1
  unfold maxLen at hm1
  have HW := hide hW
  clear hW
  by_cases c1 : 16 < n
  · have HR := hide (show r = false by rw [hr, decide_eq_false (by omega)]; rfl)
    clear hr
    have c1' : (16 : Int) < (n : Int) := by omega
    go_enter Tryz.func268, Tryz.ntmps268
    go_wp2_with (rw [← HW.out])
    go_ret
    exact ⟨ret_bool HR.out.symm, hB0⟩
  · have c1' : ¬ (16 : Int) < (n : Int) := by omega
    have HR := hide (show r = (List.range n).all (fun i => ex1 tn bn bl (es.getD i zE) && exn es i) by rw [hr, decide_eq_true (by omega)]; rfl)
    clear hr
    go_enter Tryz.func268, Tryz.ntmps268
    go_wp2_with (rw [← HW.out])
    clear q0 q1 q2 q3 q4 q5 q6 q7
    go_loopw [14] (fun i wr => ∃ k : Nat, k ≤ n ∧ i = .int .i64 k ∧ Hid (∀ j, j < k → ex1 tn bn bl (es.getD j zE) = true) ∧ Below w.heap.size w wr ∧ Blk wr w.heap.size #[.string nm, .slice ta tn tc, .slice ba bn bc, v3, .int .i64 bss, v5, v6, .slice ea n ec] 104) (fun i _ => n - (intOf i).toNat)
    case atStart => exact ⟨0, Nat.zero_le _, rfl, hide (fun j hj => by omega), hB0, kb⟩
    case round =>
      obtain ⟨k, hk, rfl, HJ, hB, kw⟩ := hrel
      clear kb hB0
      obtain ⟨q0, q1, q2, q3, q4, q5, q6, q7⟩ := kw.eight
      by_cases hlt : k < n
      · have hlt' : (k : Int) < (n : Int) := by omega
        obtain ⟨bb, off, rfl⟩ := h.addr (by omega)
        obtain ⟨y1, y2, y3⟩ := (h.below hB).at k hlt
        have HZ := hide (rng_bad (fun i => ex1 tn bn bl (es.getD i zE) && exn es i) n k hlt)
        have HG := hide (show ex1 tn bn bl (es.getD k zE) = true → ∀ j, j < k + 1 → ex1 tn bn bl (es.getD j zE) = true from fun h j hj => by
          by_cases e : j = k
          · subst e; exact h
          · exact HJ.out j (by omega))
        have HN := hide (fun w => isName_any (es.getD k zE).1 w (h.size k))
        generalize es.getD k zE = E at *
        obtain ⟨en, eb, ei⟩ := E
        dsimp only at y1 y2 y3 HN
        have lkw := kw.lt
        have hb1 := hb.below (hB.alloc hB.size (.cells #[.string en, .int .i64 eb, .int .i64 ei] 207))
        have HP := hide (fun w h => pieceOf_any nm ta tn tc ba bn bc bl v3 v5 v6 (.slice (some ⟨bb, off, none⟩) n ec) bss eb w htn h)
        have kE := Blk.new wr #[.string en, .int .i64 eb, .int .i64 ei] 207
        have hA : Below wr.heap.size wr (wr.alloc (.cells #[.string en, .int .i64 eb, .int .i64 ei] 207)) := (Below.refl _ _).alloc (Nat.le_refl _) _
        go_wp2_with fail
        refine (HP.out _ hb1).mono ?_
        rintro e w1 ⟨pa, pn, px, ok, rfl, hok, hpn, hpm, hbp⟩
        have kE1 := kE.below hbp
        have kw1 := (kw.below hA).below hbp
        have hB1 := (hB.trans (hA.mono hB.size)).trans (hbp.mono (by have := hB.size; simp; omega))
        clear kE kw hA hbp hb1 HP q0 q1 q2 q3 q4 q5 q6 q7 y1 y2 y3 hB
        unfold maxLen at hpm
        have HOK := hide (And.intro hok hpn)
        clear hok hpn
        obtain ⟨z1, z2, z3, z4⟩ := kE1.three
        have HEX := hide (show ex1 tn bn bl (en, eb, ei) = (nmo en && decide (0 ≤ ei ∧ ei < pcn tn bn bl eb)) from rfl)
        have HU := hide (fun w => isUpTo_any ei ((pn : Int) - 1) w)
        cases hn : nmo en
        · rw [hn] at HN
          go_wp2_with (go_at_call 264; refine (HN.out _).mono ?_; rintro e w2 ⟨rfl, rfl⟩)
          go_ret
          exact ⟨ret_bool (by rw [HR.out]; exact (HZ.out (by rw [HEX.out, hn]; rfl)).symm), hB1⟩
        · rw [hn] at HN
          cases ok
          · have hp : ¬ 0 ≤ pcn tn bn bl eb := by have := HOK.out.1; simpa using this.symm
            go_wp2_with (go_at_call 264; refine (HN.out _).mono ?_; rintro e w2 ⟨rfl, rfl⟩)
            go_ret
            exact ⟨ret_bool (by rw [HR.out]; exact (HZ.out (by rw [HEX.out, decide_eq_false (by omega)]; simp)).symm), hB1⟩
          · have hp : (pn : Int) = pcn tn bn bl eb := HOK.out.2 rfl
            have HPP := hide hp
            clear hp
            by_cases d1 : 0 ≤ ei ∧ ei ≤ (pn : Int) - 1
            · have HE1 := hide (show ex1 tn bn bl (en, eb, ei) = true by rw [HEX.out, hn, ← HPP.out, decide_eq_true (by omega)]; rfl)
              rw [decide_eq_true d1] at HU
              go_wp2_with (first | (go_at_call 264; refine (HN.out _).mono ?_; rintro e w2 ⟨rfl, rfl⟩) | (go_at_call 165; refine (HU.out _).mono ?_; rintro e w2 ⟨rfl, rfl⟩))
              go_roundw
              case rel => exact ⟨k + 1, by omega, by go_num, hide (HG.out HE1.out), hB1, kw1⟩
              case measure => simp [intOf]; omega
            · rw [decide_eq_false d1] at HU
              have HE1 := hide (show ex1 tn bn bl (en, eb, ei) = false by rw [HEX.out, hn, ← HPP.out, decide_eq_false (by omega)]; rfl)
              go_wp2_with (first | (go_at_call 264; refine (HN.out _).mono ?_; rintro e w2 ⟨rfl, rfl⟩) | (go_at_call 165; refine (HU.out _).mono ?_; rintro e w2 ⟨rfl, rfl⟩))
              go_ret
              exact ⟨ret_bool (by rw [HR.out]; exact (HZ.out (by rw [HE1.out]; rfl)).symm), hB1⟩
      · have e : k = n := by omega
        subst e
        have HE := hide (exo_last tn bn bl k es (fun j hj => HJ.out j hj))
        have h' := h.below hB
        have HF := hide (fun w h => firstOfE_any ea k ec es w h (by omega))
        obtain ⟨S, hS⟩ : ∃ S, S = size (fd (exNm es) k) := ⟨_, rfl⟩
        have HS := hide hS
        clear hS
        go_wp2_with fail
        go_region_with (first
            | (go_at_call 271; refine (HF.out _ (by exact h')).mono ?_; rintro e w1 ⟨rfl, hown, hb1⟩; have hl : ∀ ty, (Builtin.len_ #[262] ty #[.map (some wr.heap.size)]).run Tryz.prog w1 = .ok (.int .i64 (S : Int)) w1 := (by intro ty; rw [HS.out]; exact hown.len Tryz.underlying262 ty); replace hb1 := undrew hb1; obtain ⟨q0, q1, q2, q3, q4, q5, q6, q7⟩ := (kw.below hb1).eight; clear hown))
        all_goals
          have HB1 := hide (hB.trans (hb1.mono hB.size))
          go_wp2
          go_ret
          exact ⟨ret_bool (by rw [HR.out, HE.out, ← HS.out]; first | rfl | (rw [Bool.eq_iff_iff]; simp; omega)), HB1.out⟩
end Go.Proofs.YtngdgogjlpjjpaeGreat

namespace Go.Proofs.YtngdgogjlpjjpaeGreat
open Go.RowKit
set_option linter.unusedVariables false
set_option linter.unusedSimpArgs false
set_option maxRecDepth 100000

set_option maxHeartbeats 4000000 in
theorem iModuleOk_any (nm : ByteArray) (ta : Option Addr) (tn tc : Nat) (tz : List Int) (ba : Option Addr) (bn bc : Nat) (bl : List Bk) (da : Option Addr) (dn dc : Nat) (dz : List Int) (bss : Int) (ra : Option Addr) (rn rc : Nat) (rz : List Int) (ia : Option Addr) (im ic : Nat) (ss : List ByteArray) (ea : Option Addr) (en ec : Nat) (es : List Ex) (w : World)
    (h : MD w nm ta tn tc tz ba bn bc bl da dn dc dz bss ra rn rc rz ia im ic ss ea en ec es) :
    Calls Tryz.prog 225 #[.agg #[.string nm, .slice ta tn tc, .slice ba bn bc, .slice da dn dc, .int .i64 bss, .slice ra rn rc, .slice ia im ic, .slice ea en ec]] w fun e w' => e = .returned (.int .i64 (mdo nm tn tz bn bl dn bss rn rz im ss en es)) ∧ Below w.heap.size w w' := by
  obtain ⟨W, hW⟩ : ∃ W, W = w.alloc (.cells #[.string nm, .slice ta tn tc, .slice ba bn bc, .slice da dn dc, .int .i64 bss, .slice ra rn rc, .slice ia im ic, .slice ea en ec] 104) := ⟨_, rfl⟩
  have hB0 : Below w.heap.size w W := by rw [hW]; exact (Below.refl _ _).alloc (Nat.le_refl _) _
  have kb : Blk W w.heap.size #[.string nm, .slice ta tn tc, .slice ba bn bc, .slice da dn dc, .int .i64 bss, .slice ra rn rc, .slice ia im ic, .slice ea en ec] 104 := by rw [hW]; exact Blk.new _ _ _
  obtain ⟨r, hr⟩ : ∃ r, r = mdo nm tn tz bn bl dn bss rn rz im ss en es := ⟨_, rfl⟩
  rw [← hr]
  unfold mdo at hr
  have HRR := hide hr
  clear hr
  have H0 := h.below hB0
  have hmd := h.d.2.1
  have htn := h.t.2.1
  have HN := hide (fun w => isName_any nm w h.n)
  have HCd := hide (fun w ht hb => codeOk_any nm ta tn tc tz ba bn bc bl (.slice da dn dc) (.slice ra rn rc) (.slice ia im ic) (.slice ea en ec) bss w ht hb)
  have HRl := hide (fun w h => relocsOk_any nm (.slice ta tn tc) (.slice ba bn bc) da dn dc bss ra rn rc rz (.slice ia im ic) (.slice ea en ec) w hmd h)
  have HIm := hide (fun w h => importsOk_any nm (.slice ta tn tc) (.slice ba bn bc) (.slice da dn dc) (.slice ra rn rc) (.slice ea en ec) bss ia im ic ss w h)
  have HEx := hide (fun w hb h => exportsOk_any nm ta tn tc ba bn bc bl (.slice da dn dc) (.slice ra rn rc) (.slice ia im ic) bss ea en ec es w htn hb h)
  have HU := hide (fun w => isUpTo_any bss 512 w)
  unfold maxLen at hmd
  obtain ⟨s0, s1⟩ := h.s
  clear h htn
  have HW := hide hW
  clear hW
  generalize nmo nm = a1 at *
  generalize cdo tn tz bn bl = a2 at *
  generalize rlo rn rz dn = a4 at *
  generalize imo im ss = a5 at *
  generalize exo tn bn bl en es = a6 at *
  obtain ⟨q0, q1, q2, q3, q4, q5, q6, q7⟩ := kb.eight
  go_enter Tryz.func225, Tryz.ntmps225
  go_wp2_with (first | (rw [← HW.out]) | (go_at_call 264; refine (HN.out _).mono ?_; rintro e w1 ⟨rfl, rfl⟩; cases a1))
  · have e := hide (show r = 1 from by rw [HRR.out]; simp)
    go_ret
    exact ⟨ret_int e.out.symm, hB0⟩
  · refine (HCd.out _ H0.t H0.b).mono ?_
    rintro e w2 ⟨rfl, hb2⟩
    have kb2 := kb.below hb2
    have H2 := H0.below hb2
    have hB2 := hB0.trans (hb2.mono hB0.size)
    clear hb2 kb H0 hB0 q0 q1 q2 q3 q4 q5 q6 q7
    obtain ⟨q0, q1, q2, q3, q4, q5, q6, q7⟩ := kb2.eight
    cases a2
    · have e := hide (show r = 2 from by rw [HRR.out]; simp)
      go_wp2
      go_ret
      exact ⟨ret_int e.out.symm, hB2⟩
    · by_cases c1 : 512 < dn
      · have e := hide (show r = 3 from by rw [HRR.out]; simp [c1])
        have c1' : (512 : Int) < (dn : Int) := by omega
        go_wp2
        go_ret
        exact ⟨ret_int e.out.symm, hB2⟩
      · have c1' : ¬ (512 : Int) < (dn : Int) := by omega
        by_cases c2 : 0 ≤ bss ∧ bss ≤ 512
        · have HR2 := hide (show r = if a4 = false then 4 else if a5 = false then 5 else if a6 = false then 6 else 0 from by
            rw [HRR.out]
            simp only [Bool.true_eq_false, if_false, show ¬ (512 < dn ∨ bss < 0 ∨ 512 < bss) by omega])
          clear HRR
          rw [decide_eq_true c2] at HU
          go_wp2_with (go_at_call 165; refine (HU.out _).mono ?_; rintro e w1 ⟨rfl, rfl⟩)
          refine (HRl.out _ H2.r).mono ?_
          rintro e w3 ⟨rfl, hb3⟩
          have kb3 := kb2.below hb3
          have H3 := H2.below hb3
          have hB3 := hB2.trans (hb3.mono hB2.size)
          clear hb3 kb2 H2 hB2 q0 q1 q2 q3 q4 q5 q6 q7
          obtain ⟨q0, q1, q2, q3, q4, q5, q6, q7⟩ := kb3.eight
          cases a4
          · have e := hide (show r = 4 from by rw [HR2.out]; simp)
            go_wp2
            go_ret
            exact ⟨ret_int e.out.symm, hB3⟩
          · go_wp2_with fail
            refine (HIm.out _ H3.i).mono ?_
            rintro e w4 ⟨rfl, hb4⟩
            have kb4 := kb3.below hb4
            have H4 := H3.below hb4
            have hB4 := hB3.trans (hb4.mono hB3.size)
            clear hb4 kb3 H3 hB3 q0 q1 q2 q3 q4 q5 q6 q7
            obtain ⟨q0, q1, q2, q3, q4, q5, q6, q7⟩ := kb4.eight
            cases a5
            · have e := hide (show r = 5 from by rw [HR2.out]; simp)
              go_wp2
              go_ret
              exact ⟨ret_int e.out.symm, hB4⟩
            · go_wp2_with fail
              refine (HEx.out _ H4.b H4.e).mono ?_
              rintro e w5 ⟨rfl, hb5⟩
              have hB5 := hB4.trans (hb5.mono hB4.size)
              clear hb5 H4 hB4 kb4
              cases a6
              · have e := hide (show r = 6 from by rw [HR2.out]; simp)
                go_wp2
                go_ret
                exact ⟨ret_int e.out.symm, hB5⟩
              · have e := hide (show r = 0 from by rw [HR2.out]; simp)
                go_wp2
                go_ret
                exact ⟨ret_int e.out.symm, hB5⟩
        · rw [decide_eq_false c2] at HU
          have e := hide (show r = 3 from by rw [HRR.out]; simp only [Bool.true_eq_false, if_false, show (512 < dn ∨ bss < 0 ∨ 512 < bss) by omega, if_true])
          go_wp2_with (go_at_call 165; refine (HU.out _).mono ?_; rintro e w1 ⟨rfl, rfl⟩)
          go_ret
          exact ⟨ret_int e.out.symm, hB2⟩
end Go.Proofs.YtngdgogjlpjjpaeGreat

namespace Go.Proofs.YtngdgogjlpjjpaeGreat
open Go.RowKit
set_option linter.unusedVariables false

theorem take_eq_succ (xs ys : List Int) (k : Nat) (h : xs.take k = ys.take k) (hx : k < xs.length) (hy : k < ys.length) (he : xs.getD k 0 = ys.getD k 0) : xs.take (k + 1) = ys.take (k + 1) := by
  rw [List.take_succ_eq_append_getElem hx, List.take_succ_eq_append_getElem hy, h]
  simp [List.getD_eq_getElem?_getD, hx, hy] at he
  rw [he]

set_option maxHeartbeats 1000000 in
theorem eqByteS_any (a a' : Option Addr) (n cap n' cap' : Nat) (xs ys : List Int) (w : World) (h : BS w a n cap xs) (h' : BS w a' n' cap' ys) :
    Calls Tryz.prog 88 #[.slice a n cap, .slice a' n' cap'] w fun e w' => e = .returned (.bool (decide (xs = ys))) ∧ Below w.heap.size w w' := by
  obtain ⟨hl, hmx, hr, hc, _⟩ := h
  obtain ⟨hl', hmx', hr', hc', _⟩ := h'
  unfold maxLen at hmx hmx'
  by_cases hn : n = n'
  · subst hn
    have hne : ((n : Int) != (n : Int)) = false := by simp
    by_cases hn0 : n = 0
    · subst hn0
      obtain rfl : xs = [] := List.eq_nil_of_length_eq_zero hl
      obtain rfl : ys = [] := List.eq_nil_of_length_eq_zero hl'
      clear hc hc'
      go_enter Tryz.func88, Tryz.ntmps88
      go_wp2
      go_loop [5] (fun i => i = .int .i64 0) (fun _ => 0)
      case atStart => rfl
      case round =>
        obtain rfl := hrel
        go_wp2
        go_ret
        exact ⟨rfl, Below.refl _ _⟩
    · obtain ⟨b, off, rfl, hd⟩ := hc hn0
      obtain ⟨b', off', rfl, hd'⟩ := hc' hn0
      clear hc hc'
      go_enter Tryz.func88, Tryz.ntmps88
      go_wp2
      go_loopw [5] (fun i wr => ∃ k : Nat, k ≤ n ∧ i = .int .i64 k ∧ xs.take k = ys.take k ∧ Below w.heap.size w wr) (fun i _ => n - (intOf i).toNat)
      case atStart => exact ⟨0, Nat.zero_le _, rfl, by simp, Below.refl _ _⟩
      case round =>
        obtain ⟨k, hk, rfl, hT, hB⟩ := hrel
        by_cases hlt : k < n
        · have hlt' : (k : Int) < (n : Int) := by omega
          have hck : wr.cell? ⟨b, off + k, none⟩ = some (.int .u8 (xs.getD k 0)) := (hB.cell (World.block_lt_of_cell? w _ (hd k hlt))).trans (hd k hlt)
          have hck' : wr.cell? ⟨b', off' + k, none⟩ = some (.int .u8 (ys.getD k 0)) := (hB.cell (World.block_lt_of_cell? w _ (hd' k hlt))).trans (hd' k hlt)
          by_cases he : xs.getD k 0 = ys.getD k 0
          · have hS := take_eq_succ xs ys k hT (by omega) (by omega) he
            have HS : Hid (xs.take (k + 1) = ys.take (k + 1)) := hS
            rw [he] at hck
            clear hS hT hd hd' he
            generalize ys.getD k 0 = z at *
            have hz : (z != z) = false := by simp
            go_wp2
            go_quiet (fail)
            go_wp2
            go_roundw
            case rel => exact ⟨k + 1, by omega, by go_num, HS.out, below_drewN hB _⟩
            case measure => simp [intOf]; omega
          · have hf : Hid (decide (xs = ys) = false) := by
              show _ = _
              simp
              intro e
              exact he (by rw [e])
            have hz : (xs.getD k 0 != ys.getD k 0) = true := by simpa using he
            clear hT hd hd' he
            generalize ys.getD k 0 = z at *
            generalize xs.getD k 0 = z' at *
            go_wp2
            go_quiet (fail)
            go_wp2
            go_ret
            exact ⟨ret_bool hf.out.symm, below_drewN hB _⟩
        · have hf : Hid (decide (xs = ys) = true) := by
            show _ = _
            simp
            rw [List.take_of_length_le (by omega), List.take_of_length_le (by omega)] at hT
            exact hT
          clear hT hd hd'
          go_wp2
          go_ret
          exact ⟨ret_bool hf.out.symm, hB⟩
  · have hf : Hid (decide (xs = ys) = false) := by
      show _ = _
      simp
      intro e
      rw [e] at hl
      omega
    have hne : ((n : Int) != (n' : Int)) = true := by simp; omega
    clear hc hc'
    go_enter Tryz.func88, Tryz.ntmps88
    go_wp2
    go_ret
    exact ⟨ret_bool hf.out.symm, Below.refl _ _⟩
end Go.Proofs.YtngdgogjlpjjpaeGreat
