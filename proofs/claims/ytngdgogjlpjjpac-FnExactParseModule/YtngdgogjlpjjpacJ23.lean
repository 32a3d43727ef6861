import Derived.Maps.OwnSet
import Derived.Test.YtngdgogjlpjjpacJ16
namespace Go.Proofs.Ytngdgogjlpjjpac
open Go Go.Maps Go.WideShapes
set_option linter.unusedSimpArgs false

/-- Names at positions, each at the first position that has it: a map. -/
def fd (f : Nat → List UInt8) : Nat → DataW Unit
  | 0 => .map []
  | k + 1 => if has (fd f k) (.string (f k)) then fd f k else (fd f k).put (.string (f k)) (.lit (.int .i64 k))
theorem fd_succ (f : Nat → List UInt8) (k : Nat) : fd f (k + 1) = if has (fd f k) (.string (f k)) then fd f k else (fd f k).put (.string (f k)) (.lit (.int .i64 k)) := rfl
theorem key_str (s : List UInt8) : WideAt.IsKeyLit (.string s) := by simp [WideAt.IsKeyLit]
theorem fd_tidy (f : Nat → List UInt8) : ∀ k, Tidy (fd f k)
  | 0 => tidy_empty
  | k + 1 => by
    rw [fd_succ]
    split
    · exact fd_tidy f k
    · exact (fd_tidy f k).put (key_str _) _
theorem fd_has (f : Nat → List UInt8) (s : List UInt8) : ∀ k, has (fd f k) (.string s) = (List.range k).any (fun j => f j == s)
  | 0 => rfl
  | k + 1 => by
    rw [List.range_succ, List.any_append, ← fd_has f s k]
    rw [fd_succ]
    by_cases e : f k = s
    · subst e
      split
      · rename_i h; rw [h]; rfl
      · rw [has_put_same (fd_tidy f k).isMap (key_str _)]; simp
    · have e' : (Lit.string s) ≠ .string (f k) := by intro h; injection h with h; exact e h.symm
      split
      · simp [e]
      · rw [has_put_other e']; simp [e]
theorem fd_size_le (f : Nat → List UInt8) : ∀ k, size (fd f k) ≤ k
  | 0 => Nat.le_refl _
  | k + 1 => by
    have := fd_size_le f k
    rw [fd_succ]
    split
    · omega
    · rename_i h
      rw [size_put (fd_tidy f k), if_neg h]
      omega
theorem fd_size (f : Nat → List UInt8) : ∀ k, decide (size (fd f k) = k) = (List.range k).all (fun i => (List.range i).all fun j => !(f j == f i))
  | 0 => rfl
  | k + 1 => by
    have h1 := fd_size_le f k
    rw [List.range_succ, List.all_append, ← fd_size f k]
    have hh := fd_has f (f k) k
    have e : (List.range k).all (fun j => !(f j == f k)) = !(has (fd f k) (.string (f k))) := by rw [hh]; induction List.range k with | nil => rfl | cons a l ih => simp [ih]
    simp only [List.all_cons, List.all_nil, Bool.and_true, e]
    rw [fd_succ]
    cases hb : has (fd f k) (.string (f k))
    · rw [if_neg (by simp), size_put (fd_tidy f k), hb, if_neg (by simp)]
      simp
    · rw [if_pos rfl]
      simp
      omega
/-- the first position that has the name -/
def fst? (f : Nat → List UInt8) (s : List UInt8) : Nat → Option Nat
  | 0 => none
  | k + 1 => match fst? f s k with | some j => some j | none => if f k = s then some k else none
theorem fst_succ (f : Nat → List UInt8) (s : List UInt8) (k : Nat) : fst? f s (k + 1) = match fst? f s k with | some j => some j | none => if f k = s then some k else none := rfl
theorem fst_has (f : Nat → List UInt8) (s : List UInt8) : ∀ k, (fst? f s k).isSome = has (fd f k) (.string s)
  | 0 => rfl
  | k + 1 => by
    rw [fd_has, List.range_succ, List.any_append, ← fd_has, ← fst_has f s k]
    rw [fst_succ]
    cases fst? f s k with
    | some j => simp
    | none => by_cases e : f k = s <;> simp [e]
theorem fd_at (f : Nat → List UInt8) (s : List UInt8) (z : DataW Unit) : ∀ k, (fd f k).atKey (.string s) z = match fst? f s k with | some j => .lit (.int .i64 j) | none => z
  | 0 => rfl
  | k + 1 => by
    have ih := fd_at f s z k
    have hh := fst_has f s k
    rw [fst_succ, fd_succ]
    by_cases e : f k = s
    · subst e
      cases hf : fst? f (f k) k with
      | some j => rw [hf] at hh ih; simp only [Option.isSome_some] at hh; rw [if_pos hh.symm]; simpa using ih
      | none => rw [hf] at hh; simp only [Option.isSome_none] at hh; rw [if_neg (by rw [← hh]; simp), atKey_put_same (fd_tidy f k).isMap (key_str _)]; simp
    · have e' : (Lit.string s) ≠ .string (f k) := by intro h; injection h with h; exact e h.symm
      split <;> (cases hf : fst? f s k with
        | some j => rw [hf] at ih; simpa [atKey_put_other e'] using ih
        | none => rw [hf] at ih; simpa [atKey_put_other e', e] using ih)
end Go.Proofs.Ytngdgogjlpjjpac

namespace Go.Proofs.Ytngdgogjlpjjpac
open Go.RowKit Go.Maps
set_option linter.unusedVariables false
set_option linter.unusedSimpArgs false
set_option maxRecDepth 100000

theorem lawS : Keyed Try.prog 9 := string_keyed Try.underlying9
theorem zeroI (w : World) : (zeroValue 3).run Try.prog w = .ok (.int .i64 0) w := by kernel_rfl
theorem exportName_any (s : ByteArray) (b i : Int) (w : World) :
    Calls Try.prog 62 #[.agg #[.string s, .int .i64 b, .int .i64 i]] w fun e w' => e = .returned (.string s) ∧ Below w.heap.size w w' := by
  go_enter Try.func62, Try.ntmps62
  go_wp2
  go_ret
  exact ⟨rfl, (Below.refl _ _).alloc (Nat.le_refl _) _⟩
theorem run_makeMap_room (x : Int) (w : World) : (Instr.makeMap 91 (some (.int .i64 x))).run Try.prog w = .ok (.map (some w.heap.size)) (w.alloc (.map #[] 0)) := by
  simp [Instr.makeMap, asInt, asIntOf, run_underlying Try.underlying91, Result.andThen]
/-- the bytes of the given name number i -/
def exNm (es : List Ex) (i : Nat) : List UInt8 := (es.getD i zE).1.data.toList

set_option maxHeartbeats 2000000 in
theorem firstOfE_any (ea : Option Addr) (n ec : Nat) (es : List Ex) (w : World) (h : ES w ea n ec es) (hn : n ≤ 1048576) :
    Calls Try.prog 61 #[.slice ea n ec, .func (.func 62) #[] #[]] w fun e w' => e = .returned (.map (some w.heap.size)) ∧ w'.ownsMap Try.prog 9 (plainElem Try.prog 3) w.heap.size n (fd (exNm es) n) ∧ Below w.heap.size w w' := by
  have hmm := run_makeMap_room
  have hm1 := h.2.1
  unfold maxLen at hm1
  go_enter Try.func61, Try.ntmps61
  go_wp2
  go_loopw [16] (fun i wr => ∃ k : Nat, k ≤ n ∧ i = .int .i64 k ∧ wr.ownsMap Try.prog 9 (plainElem Try.prog 3) w.heap.size k (fd (exNm es) k) ∧ Below w.heap.size w wr) (fun i _ => n - (intOf i).toNat)
  case atStart => exact ⟨0, Nat.zero_le _, rfl, World.ownsMap_made _ _ _ _, (Below.refl _ _).alloc (Nat.le_refl _) _⟩
  case round =>
    obtain ⟨k, hk, rfl, hown, hB⟩ := hrel
    by_cases hlt : k < n
    · have hlt' : (k : Int) < (n : Int) := by omega
      obtain ⟨bb, off, rfl⟩ := h.addr (by omega)
      obtain ⟨y1, y2, y3⟩ := (h.below hB).at k hlt
      have hsz := h.size k
      have HX := hide (fd_succ (exNm es) k)
      have hkl : exNm es k = (es.getD k zE).1.data.toList := rfl
      rw [hkl] at HX
      clear hkl
      generalize es.getD k zE = E at *
      obtain ⟨en, eb, ei⟩ := E
      dsimp only at y1 y2 y3 hsz HX
      have hkey : keyOf Try.prog 9 (.string en) = some (.string en.data.toList) := Go.WideMaps.keyOf_string_mk Try.underlying9 (by unfold maxLen; omega)
      have HKEY := hide hkey
      clear hkey
      have hA : Below wr.heap.size wr (wr.alloc (.cells #[.string en, .int .i64 eb, .int .i64 ei] 86)) := (Below.refl _ _).alloc (Nat.le_refl _) _
      go_wp2_with fail
      refine (exportName_any en eb ei _).mono ?_
      rintro e w1 ⟨rfl, hb1⟩
      have hb1' := hA.trans (hb1.mono hA.size)
      have hB1 := hB.trans (hb1'.mono hB.size)
      have hown1 : w1.ownsMap Try.prog 9 (plainElem Try.prog 3) w.heap.size k (fd (exNm es) k) := by
        obtain ⟨es', cl, hh, r⟩ := hown
        refine ⟨es', cl, ?_, r⟩
        have hl : w.heap.size < wr.heap.size := by
          rcases Nat.lt_or_ge w.heap.size wr.heap.size with h' | h'
          · exact h'
          · rw [Array.getElem?_eq_none h'] at hh; cases hh
        rw [hb1'.block _ hl]
        exact hh
      clear hown hA hb1 hb1' y1 y2 y3
      cases hh : has (fd (exNm es) k) (.string en.data.toList)
      · rw [hh] at HX
        go_wp2_with (first
          | (at_lookup; refine wpList_lookup_own_ok_int _ rfl _ _ 91 rfl 9 3 .i64 lawS Try.underlying91 Try.underlying3 (zeroI _) w.heap.size k _ rfl hown1 _ _ rfl HKEY.out ?_; intro c hat hwc; clear hat; rw [hh])
          | (at_mapUpdate; refine wpList_mapUpdate_own _ rfl _ _ _ 91 rfl 9 3 lawS Try.underlying91 _ w.heap.size k _ rfl hown1 (by unfold maxLen; omega) _ _ _ rfl rfl HKEY.out _ [] (plainElem_int Try.underlying3 (WalkArith.wf_i64 (by omega))) ?_; intro w2 hown2 hgr2))
        have HO := hide hown2
        have HB2 := hide (hB1.grown hgr2 hB1.size (fun j hj => by cases hj; exact Nat.le_refl _))
        clear hown2 hgr2 hown1
        go_wp2
        go_roundw
        case rel => exact ⟨k + 1, by omega, by go_num, by have := HO.out; rw [HX.out, if_neg (by simp)]; exact this, HB2.out⟩
        case measure => simp [intOf]; omega
      · rw [hh] at HX
        go_wp2_with (first
          | (at_lookup; refine wpList_lookup_own_ok_int _ rfl _ _ 91 rfl 9 3 .i64 lawS Try.underlying91 Try.underlying3 (zeroI _) w.heap.size k _ rfl hown1 _ _ rfl HKEY.out ?_; intro c hat hwc; clear hat; rw [hh]))
        have HO := hide hown1
        clear hown1
        go_wp2
        go_roundw
        case rel => exact ⟨k + 1, by omega, by go_num, by have := HO.out; rw [HX.out, if_pos trivial]; exact this.mono (by omega), hB1⟩
        case measure => simp [intOf]; omega
    · have e : Hid (k = n) := by show k = n; omega
      go_wp2
      go_ret
      exact ⟨rfl, by rw [e.out] at hown; exact hown, hB⟩
end Go.Proofs.Ytngdgogjlpjjpac
