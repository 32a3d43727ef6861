import Derived.Test.YtngdgogjlpjjpadGreatP11
import Derived.Test.YtngdgogjlpjjpadGreatP13
import Derived.Test.YtngdgogjlpjjpadGreatP12
namespace Go.Proofs.YtngdgogjlpjjpadGreat
open Go.RowKit
set_option linter.unusedVariables false
theorem l3Ins_fn (zs:List Int) (k:Nat) (hz:∀ j,0≤zs.getD j 0∧zs.getD j 0≤255):
 ∃ (o d x i:Int) (k':Nat),(-1≤o∧o≤64∧-1≤d∧d≤10∧-1≤x∧x≤10∧-1≤i∧i≤65536)∧∀ (r:Nat) (a:Option Addr) (n c:Nat) (w:World) (h:Rdr w r a n c zs k) (hcode:n≠0→∀ b off,a=some ⟨b,off,none⟩→b<w.heap.size),Calls Tryz.prog 282 #[.pointer (some ⟨r,0,none⟩)] w (InsDr w r a n c zs o d x i k'):=by
 obtain ⟨v1,E1,z0,z0'⟩:=draw_of hz k
 obtain ⟨op,ho1,ho2,hop⟩:=opTab_at (v1 % 25).toNat (by omega)
 have HOP:=hide hop
 clear hop
 refine ⟨op,?_⟩
 by_cases hu3:us op=3
 ·exact l3Ins_u3 zs k hz v1 E1 z0 z0' op ho1 ho2 hu3 HOP
 by_cases hu0:us op=0
 ·exact l3Ins_u0 zs k hz v1 E1 z0 z0' op ho1 ho2 hu0 HOP
 rcases op_cases op with h' | h' | rfl | rfl | rfl | rfl | rfl | rfl | rfl | rfl | rfl | rfl | rfl | rfl | rfl | rfl | rfl | rfl | rfl | rfl | rfl | rfl | rfl | rfl | rfl | rfl | rfl
 ·omega
 ·omega
 ·exact absurd (by decide) hu0
 ·exact l3Ins_2 zs k hz v1 E1 z0 z0' HOP
 ·exact l3Ins_3 zs k hz v1 E1 z0 z0' HOP
 ·exact absurd (by decide) hu3
 ·exact absurd (by decide) hu3
 ·exact l3Ins_6 zs k hz v1 E1 z0 z0' HOP
 ·exact absurd (by decide) hu3
 ·exact absurd (by decide) hu3
 ·exact absurd (by decide) hu3
 ·exact absurd (by decide) hu3
 ·exact absurd (by decide) hu3
 ·exact absurd (by decide) hu3
 ·exact absurd (by decide) hu3
 ·exact l3Ins_14 zs k hz v1 E1 z0 z0' HOP
 ·exact l3Ins_15 zs k hz v1 E1 z0 z0' HOP
 ·exact l3Ins_16 zs k hz v1 E1 z0 z0' HOP
 ·exact l3Ins_17 zs k hz v1 E1 z0 z0' HOP
 ·exact l3Ins_18 zs k hz v1 E1 z0 z0' HOP
 ·exact l3Ins_19 zs k hz v1 E1 z0 z0' HOP
 ·exact l3Ins_20 zs k hz v1 E1 z0 z0' HOP
 ·exact l3Ins_21 zs k hz v1 E1 z0 z0' HOP
 ·exact l3Ins_22 zs k hz v1 E1 z0 z0' HOP
 ·exact l3Ins_23 zs k hz v1 E1 z0 z0' HOP
 ·exact l3Ins_24 zs k hz v1 E1 z0 z0' HOP
 ·exact absurd (by decide) hu0
end Go.Proofs.YtngdgogjlpjjpadGreat
