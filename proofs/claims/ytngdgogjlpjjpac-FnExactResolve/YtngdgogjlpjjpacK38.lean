import Derived.Maps.OwnSet
namespace Go.Proofs.Ytngdgogjlpjjpac
open Go Go.Maps Go.WideShapes
set_option linter.unusedSimpArgs false

/-- Names at positions, each at the first position that has it: a map. -/
def fd (f : Nat → List UInt8) : Nat → DataW Unit
  | 0 => .map []
  | k + 1 => if has (fd f k) (.string (f k)) then fd f k else (fd f k).put (.string (f k)) (.lit (.int .i64 k))
theorem fd_succ (f : Nat → List UInt8) (k : Nat) : fd f (k + 1) = if has (fd f k) (.string (f k)) then fd f k else (fd f k).put (.string (f k)) (.lit (.int .i64 k)) := rfl
theorem key_str (s : List UInt8) : WideAt.IsKeyLit (.string s) := by simp [WideAt.IsKeyLit]
theorem fd_tidy (f : Nat → List UInt8) : ∀ k, Tidy (fd f k)
  | 0 => tidy_empty
  | k + 1 => by
    rw [fd_succ]
    split
    · exact fd_tidy f k
    · exact (fd_tidy f k).put (key_str _) _
theorem fd_has (f : Nat → List UInt8) (s : List UInt8) : ∀ k, has (fd f k) (.string s) = (List.range k).any (fun j => f j == s)
  | 0 => rfl
  | k + 1 => by
    rw [List.range_succ, List.any_append, ← fd_has f s k]
    rw [fd_succ]
    by_cases e : f k = s
    · subst e
      split
      · rename_i h; rw [h]; rfl
      · rw [has_put_same (fd_tidy f k).isMap (key_str _)]; simp
    · have e' : (Lit.string s) ≠ .string (f k) := by intro h; injection h with h; exact e h.symm
      split
      · simp [e]
      · rw [has_put_other e']; simp [e]
theorem fd_size_le (f : Nat → List UInt8) : ∀ k, size (fd f k) ≤ k
  | 0 => Nat.le_refl _
  | k + 1 => by
    have := fd_size_le f k
    rw [fd_succ]
    split
    · omega
    · rename_i h
      rw [size_put (fd_tidy f k), if_neg h]
      omega
theorem fd_size (f : Nat → List UInt8) : ∀ k, decide (size (fd f k) = k) = (List.range k).all (fun i => (List.range i).all fun j => !(f j == f i))
  | 0 => rfl
  | k + 1 => by
    have h1 := fd_size_le f k
    rw [List.range_succ, List.all_append, ← fd_size f k]
    have hh := fd_has f (f k) k
    have e : (List.range k).all (fun j => !(f j == f k)) = !(has (fd f k) (.string (f k))) := by rw [hh]; induction List.range k with | nil => rfl | cons a l ih => simp [ih]
    simp only [List.all_cons, List.all_nil, Bool.and_true, e]
    rw [fd_succ]
    cases hb : has (fd f k) (.string (f k))
    · rw [if_neg (by simp), size_put (fd_tidy f k), hb, if_neg (by simp)]
      simp
    · rw [if_pos rfl]
      simp
      omega
/-- the first position that has the name -/
def fst? (f : Nat → List UInt8) (s : List UInt8) : Nat → Option Nat
  | 0 => none
  | k + 1 => match fst? f s k with | some j => some j | none => if f k = s then some k else none
theorem fst_succ (f : Nat → List UInt8) (s : List UInt8) (k : Nat) : fst? f s (k + 1) = match fst? f s k with | some j => some j | none => if f k = s then some k else none := rfl
theorem fst_has (f : Nat → List UInt8) (s : List UInt8) : ∀ k, (fst? f s k).isSome = has (fd f k) (.string s)
  | 0 => rfl
  | k + 1 => by
    rw [fd_has, List.range_succ, List.any_append, ← fd_has, ← fst_has f s k]
    rw [fst_succ]
    cases fst? f s k with
    | some j => simp
    | none => by_cases e : f k = s <;> simp [e]
theorem fd_at (f : Nat → List UInt8) (s : List UInt8) (z : DataW Unit) : ∀ k, (fd f k).atKey (.string s) z = match fst? f s k with | some j => .lit (.int .i64 j) | none => z
  | 0 => rfl
  | k + 1 => by
    have ih := fd_at f s z k
    have hh := fst_has f s k
    rw [fst_succ, fd_succ]
    by_cases e : f k = s
    · subst e
      cases hf : fst? f (f k) k with
      | some j => rw [hf] at hh ih; simp only [Option.isSome_some] at hh; rw [if_pos hh.symm]; simpa using ih
      | none => rw [hf] at hh; simp only [Option.isSome_none] at hh; rw [if_neg (by rw [← hh]; simp), atKey_put_same (fd_tidy f k).isMap (key_str _)]; simp
    · have e' : (Lit.string s) ≠ .string (f k) := by intro h; injection h with h; exact e h.symm
      split <;> (cases hf : fst? f s k with
        | some j => rw [hf] at ih; simpa [atKey_put_other e'] using ih
        | none => rw [hf] at ih; simpa [atKey_put_other e', e] using ih)
end Go.Proofs.Ytngdgogjlpjjpac
