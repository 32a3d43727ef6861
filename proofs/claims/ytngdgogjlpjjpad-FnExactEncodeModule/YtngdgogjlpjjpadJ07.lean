import Derived.Test.YtngdgogjlpjjpadJ06
namespace Go.Proofs.Ytngdgogjlpjjpad
open Go.RowKit
set_option linter.unusedVariables false

end Go.Proofs.Ytngdgogjlpjjpad

namespace Go.Proofs.Ytngdgogjlpjjpad
open Go.RowKit
set_option linter.unusedVariables false

/-- WHAT Read ANSWERS. -/
def rd (n1 n2 n3 : Nat) (x1 x2 : List Int) (p s : Int) : Int × Int :=
  if mok n1 n2 n3 = true ∧ wd s = true then
    if (p.tmod s != 0) = true then (0, 1)
    else if p = 131072 then (0, 4)
      else if ins p s 0 n1 = true then (low ((x1.drop p.toNat).take s.toNat), 0)
      else if ins p s 65536 n2 = true then (low ((x2.drop (p - 65536).toNat).take s.toNat), 0) else (0, 2)
  else (0, 2)
theorem rd_pair {x y : Int} {r : Int × Int} (h : r = (x, y)) : Value.tuple #[.int .i64 r.1, .int .i64 r.2] = .tuple #[.int .i64 x, .int .i64 y] := by rw [h]
theorem wd_cases {s : Int} (h : wd s = true) : s = 4 ∨ s = 2 ∨ s = 1 := by simp [wd] at h; omega
theorem tmod1 (p : Int) : (p.tmod 1 != 0) = false := by simp
theorem BS.some {w : World} {a : Option Addr} {n cap : Nat} {zs : List Int} (h : BS w a n cap zs) (hn : n ≠ 0) : ∃ b off, a = Option.some ⟨b, off, none⟩ := by
  obtain ⟨b, off, e, _⟩ := h.2.2.2.1 hn
  exact ⟨b, off, e⟩

end Go.Proofs.Ytngdgogjlpjjpad
