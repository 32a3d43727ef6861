import Derived.Test.YthnelonbpbhhbabIn1g
import Derived.Test.YthnelonbpbhhbabIn1a
import Derived.Test.YthnelonbpbhhbabIn1b
import Derived.Test.YthnelonbpbhhbabIn1c
import Derived.Test.YthnelonbpbhhbabIn1d
import Derived.Test.YthnelonbpbhhbabIn1e
import Derived.Test.YthnelonbpbhhbabIn1f
namespace Go.Proofs.Ythnelonbpbhhbab
open Go.RowKit
set_option linter.unusedVariables false

theorem l3Ins_any (r : Nat) (a : Option Addr) (n c : Nat) (zs : List Int) (k : Nat) (w : World) (h : Rdr w r a n c zs k) (hcode : n ≠ 0 → ∀ b off, a = some ⟨b, off, none⟩ → b < w.heap.size) :
    Calls Try.prog 58 #[.pointer (some ⟨r, 0, none⟩)] w (InsDr w r a n c zs) := by
  obtain ⟨v1, E1, z0, z0'⟩ := draw_is h.bs k
  obtain ⟨op, ho1, ho2, hop⟩ := opTab_at (v1 % 25).toNat (by omega)
  have HOP := hide hop
  clear hop
  by_cases hu3 : us op = 3
  · exact l3Ins_u3 r a n c zs k w h hcode v1 E1 z0 z0' op ho1 ho2 hu3 HOP
  by_cases hu0 : us op = 0
  · exact l3Ins_u0 r a n c zs k w h hcode v1 E1 z0 z0' op ho1 ho2 hu0 HOP
  rcases op_cases op with h' | h' | rfl | rfl | rfl | rfl | rfl | rfl | rfl | rfl | rfl | rfl | rfl | rfl | rfl | rfl | rfl | rfl | rfl | rfl | rfl | rfl | rfl | rfl | rfl | rfl | rfl
  · omega
  · omega
  · exact absurd (by decide) hu0
  · exact l3Ins_2 r a n c zs k w h hcode v1 E1 z0 z0' HOP
  · exact l3Ins_3 r a n c zs k w h hcode v1 E1 z0 z0' HOP
  · exact absurd (by decide) hu3
  · exact absurd (by decide) hu3
  · exact l3Ins_6 r a n c zs k w h hcode v1 E1 z0 z0' HOP
  · exact absurd (by decide) hu3
  · exact absurd (by decide) hu3
  · exact absurd (by decide) hu3
  · exact absurd (by decide) hu3
  · exact absurd (by decide) hu3
  · exact absurd (by decide) hu3
  · exact absurd (by decide) hu3
  · exact l3Ins_14 r a n c zs k w h hcode v1 E1 z0 z0' HOP
  · exact l3Ins_15 r a n c zs k w h hcode v1 E1 z0 z0' HOP
  · exact l3Ins_16 r a n c zs k w h hcode v1 E1 z0 z0' HOP
  · exact l3Ins_17 r a n c zs k w h hcode v1 E1 z0 z0' HOP
  · exact l3Ins_18 r a n c zs k w h hcode v1 E1 z0 z0' HOP
  · exact l3Ins_19 r a n c zs k w h hcode v1 E1 z0 z0' HOP
  · exact l3Ins_20 r a n c zs k w h hcode v1 E1 z0 z0' HOP
  · exact l3Ins_21 r a n c zs k w h hcode v1 E1 z0 z0' HOP
  · exact l3Ins_22 r a n c zs k w h hcode v1 E1 z0 z0' HOP
  · exact l3Ins_23 r a n c zs k w h hcode v1 E1 z0 z0' HOP
  · exact l3Ins_24 r a n c zs k w h hcode v1 E1 z0 z0' HOP
  · exact absurd (by decide) hu0
end Go.Proofs.Ythnelonbpbhhbab
