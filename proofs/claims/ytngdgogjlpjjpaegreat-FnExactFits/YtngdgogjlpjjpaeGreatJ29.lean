import Derived.Test.YtngdgogjlpjjpaeGreatJ28
import Derived.Deep.RegionLaw
namespace Go.Proofs.YtngdgogjlpjjpaeGreat
open Go.RowKit
set_option linter.unusedVariables false
set_option linter.unusedSimpArgs false
set_option maxRecDepth 100000

set_option maxHeartbeats 2000000 in
theorem placeS_any (g : Nat) (x : Int) (a : Option Addr) (n cap : Nat) (w : World) (h : Blk w g #[.int .i64 x, .func (.func 187) #[] #[]] 266) (hx0 : 0 ≤ x) (hx1 : x ≤ 1000000) (hn : n ≤ 65535) :
    Calls Tryz.prog 230 #[.pointer (some ⟨g, 0, none⟩), .slice a n cap] w fun e w' => e = .returned (.int .i64 x) ∧ Blk w' g #[.int .i64 (x + rnd (4 * (n : Int))), .func (.func 187) #[] #[]] 266 ∧ Turn (fun j => j = g) w w' := by
  have c0 : w.cell? ⟨g, 0, none⟩ = some (.int .i64 x) := h.cell 0
  have c1 : w.cell? ⟨g, 1, none⟩ = some (.func (.func 187) #[] #[]) := h.cell 1
  have f0 := h.frozen 0
  have rR := rnd_range (x := 4 * (n : Int)) (by omega)
  obtain ⟨RR, hRR⟩ : ∃ RR, RR = rnd (4 * (n : Int)) := ⟨_, rfl⟩
  have HW := hide (fun W => wordBytes_any a n cap W (by omega))
  rw [← hRR] at rR HW ⊢
  have hw : IntKind.i64.wrap (x + RR) = x + RR := wraps62 _ (by omega) (by omega)
  have HF := hide (show Blk ((w.setCell ⟨g, 0, none⟩ (.int .i64 (x + RR))).drew) g #[.int .i64 (x + RR), .func (.func 187) #[] #[]] 266 ∧ Turn (fun j => j = g) w ((w.setCell ⟨g, 0, none⟩ (.int .i64 (x + RR))).drew) from ⟨h.set 0 (.int .i64 (x + RR)), turn_d1 (turn_set w g 0 (.int .i64 (x + RR)))⟩)
  clear h hRR
  go_enter Tryz.func230, Tryz.ntmps230
  go_wp2_with fail
  go_region_law (first
    | (go_simp; go_at_call 187; refine (HW.out _).mono ?_; rintro e wz ⟨rfl, rfl⟩))
  all_goals
    go_wp2
    go_ret
    exact ⟨rfl, HF.out.1, HF.out.2⟩
set_option maxHeartbeats 2000000 in
theorem placeI_any (g : Nat) (x v : Int) (w : World) (h : Blk w g #[.int .i64 x, .func (.func 229) #[] #[]] 268) (hx0 : 0 ≤ x) (hx1 : x ≤ 1000000) (hv0 : 0 ≤ v) (hv1 : v ≤ 1000000) :
    Calls Tryz.prog 232 #[.pointer (some ⟨g, 0, none⟩), .int .i64 v] w fun e w' => e = .returned (.int .i64 x) ∧ Blk w' g #[.int .i64 (x + rnd v), .func (.func 229) #[] #[]] 268 ∧ Turn (fun j => j = g) w w' := by
  have c0 : w.cell? ⟨g, 0, none⟩ = some (.int .i64 x) := h.cell 0
  have c1 : w.cell? ⟨g, 1, none⟩ = some (.func (.func 229) #[] #[]) := h.cell 1
  have f0 := h.frozen 0
  have rR := rnd_range hv0
  obtain ⟨RR, hRR⟩ : ∃ RR, RR = rnd v := ⟨_, rfl⟩
  have HW := hide (fun W => roundUp_any v W hv0 (by omega))
  rw [← hRR] at rR HW ⊢
  have hw : IntKind.i64.wrap (x + RR) = x + RR := wraps62 _ (by omega) (by omega)
  have HF := hide (show Blk ((w.setCell ⟨g, 0, none⟩ (.int .i64 (x + RR))).drew) g #[.int .i64 (x + RR), .func (.func 229) #[] #[]] 268 ∧ Turn (fun j => j = g) w ((w.setCell ⟨g, 0, none⟩ (.int .i64 (x + RR))).drew) from ⟨h.set 0 (.int .i64 (x + RR)), turn_d1 (turn_set w g 0 (.int .i64 (x + RR)))⟩)
  clear h hRR
  go_enter Tryz.func232, Tryz.ntmps232
  go_wp2_with fail
  go_region_law (first
    | (go_simp; go_at_call 229; refine (HW.out _).mono ?_; rintro e wz ⟨rfl, rfl⟩))
  all_goals
    go_wp2
    go_ret
    exact ⟨rfl, HF.out.1, HF.out.2⟩
end Go.Proofs.YtngdgogjlpjjpaeGreat
