import Derived.Test.YtngdgogjlpjjpaeGreatJ22
import Derived.Deep.RegionLaw
namespace Go.Proofs.YtngdgogjlpjjpaeGreat
open Go.RowKit
set_option linter.unusedVariables false
set_option linter.unusedSimpArgs false
set_option maxRecDepth 100000

/-- one way on for several ways in -/
theorem turn_d1 {S : Nat → Prop} {a W : World} (h : Turn S a W) : Turn S a W.drew := ⟨h.os, h.tape, h.output, h.size, h.block⟩
theorem cut0 {S G : Prop} (main : S → G) (pf : S) : G := main pf
theorem cut3 {S F : Nat → Nat → World → Prop} {G : Prop} (main : (∀ gp gr W, F gp gr W → S gp gr W) → G) (pf : ∀ gp gr W, F gp gr W → S gp gr W) : G := main pf
/-- the boxes and rows with which l5Lay begins -/
theorem lay_new (w : World) (s c k d : Int) (ps : List PMod) :
    Lst w ((((((w.alloc (.cells #[.int .i64 s, .int .i64 c, .int .i64 k, .int .i64 d] 44)).alloc (.cells #[.slice none 0 0, .int .i64 0, .slice none 0 0, .int .i64 0, .int .i64 0, .slice none 0 0] 36)).alloc (.cells #[] 138)).alloc (.cells #[] 3)).alloc (.cells #[] 189)).alloc (.cells #[.slice (some ⟨w.heap.size + 2, 0, none⟩) 0 0, .int .i64 0, .slice (some ⟨w.heap.size + 3, 0, none⟩) 0 0, .int .i64 0, .int .i64 0, .slice (some ⟨w.heap.size + 4, 0, none⟩) 0 0] 36)) s c k d #[.slice (some ⟨w.heap.size + 2, 0, none⟩) 0 0, .int .i64 0, .slice (some ⟨w.heap.size + 3, 0, none⟩) 0 0, .int .i64 0, .int .i64 0, .slice (some ⟨w.heap.size + 4, 0, none⟩) 0 0] ∧
    Lrw w ((((((w.alloc (.cells #[.int .i64 s, .int .i64 c, .int .i64 k, .int .i64 d] 44)).alloc (.cells #[.slice none 0 0, .int .i64 0, .slice none 0 0, .int .i64 0, .int .i64 0, .slice none 0 0] 36)).alloc (.cells #[] 138)).alloc (.cells #[] 3)).alloc (.cells #[] 189)).alloc (.cells #[.slice (some ⟨w.heap.size + 2, 0, none⟩) 0 0, .int .i64 0, .slice (some ⟨w.heap.size + 3, 0, none⟩) 0 0, .int .i64 0, .int .i64 0, .slice (some ⟨w.heap.size + 4, 0, none⟩) 0 0] 36)) ps 0 (some ⟨w.heap.size + 2, 0, none⟩) 0 [] (some ⟨w.heap.size + 4, 0, none⟩) 0 [] := by
  have k0 := Blk.new w #[.int .i64 s, .int .i64 c, .int .i64 k, .int .i64 d] 44
  have b0 : Below w.heap.size w (w.alloc (.cells #[.int .i64 s, .int .i64 c, .int .i64 k, .int .i64 d] 44)) := (Below.refl _ _).alloc (Nat.le_refl _) _
  have s0 : (w.alloc (.cells #[.int .i64 s, .int .i64 c, .int .i64 k, .int .i64 d] 44)).heap.size = w.heap.size + 1 := by simp
  generalize w.alloc (.cells #[.int .i64 s, .int .i64 c, .int .i64 k, .int .i64 d] 44) = W0 at *
  have k1 := Blk.new W0 #[.slice none 0 0, .int .i64 0, .slice none 0 0, .int .i64 0, .int .i64 0, .slice none 0 0] 36
  have b1 : Below W0.heap.size W0 (W0.alloc (.cells #[.slice none 0 0, .int .i64 0, .slice none 0 0, .int .i64 0, .int .i64 0, .slice none 0 0] 36)) := (Below.refl _ _).alloc (Nat.le_refl _) _
  have s1 : (W0.alloc (.cells #[.slice none 0 0, .int .i64 0, .slice none 0 0, .int .i64 0, .int .i64 0, .slice none 0 0] 36)).heap.size = w.heap.size + 2 := by simp [s0]
  rw [s0] at k1
  generalize W0.alloc (.cells #[.slice none 0 0, .int .i64 0, .slice none 0 0, .int .i64 0, .int .i64 0, .slice none 0 0] 36) = W1 at *
  have o2 : OPl (W1.alloc (.cells #[] 138)) (w.heap.size + 2) (w.heap.size + 6) (.slice (some ⟨W1.heap.size, 0, none⟩) 0 0) [] := or_new (by omega)
  have b2 : Below W1.heap.size W1 (W1.alloc (.cells #[] 138)) := (Below.refl _ _).alloc (Nat.le_refl _) _
  have s2 : (W1.alloc (.cells #[] 138)).heap.size = w.heap.size + 3 := by simp [s1]
  rw [s1] at o2
  generalize W1.alloc (.cells #[] 138) = W2 at *
  have o3 := og_new' 3 1 clI W2 (w.heap.size + 2) (by omega)
  have b3 : Below W2.heap.size W2 (W2.alloc (.cells #[] 3)) := (Below.refl _ _).alloc (Nat.le_refl _) _
  have s3 : (W2.alloc (.cells #[] 3)).heap.size = w.heap.size + 4 := by simp [s2]
  rw [s2] at o3
  generalize W2.alloc (.cells #[] 3) = W3 at *
  have o4 : OTg (W3.alloc (.cells #[] 189)) (w.heap.size + 2) (w.heap.size + 6) (.slice (some ⟨W3.heap.size, 0, none⟩) 0 0) [] := or_new (by omega)
  have b4 : Below W3.heap.size W3 (W3.alloc (.cells #[] 189)) := (Below.refl _ _).alloc (Nat.le_refl _) _
  have s4 : (W3.alloc (.cells #[] 189)).heap.size = w.heap.size + 5 := by simp [s3]
  rw [s3] at o4
  generalize W3.alloc (.cells #[] 189) = W4 at *
  have k5 := Blk.new W4 #[.slice (some ⟨w.heap.size + 2, 0, none⟩) 0 0, .int .i64 0, .slice (some ⟨w.heap.size + 3, 0, none⟩) 0 0, .int .i64 0, .int .i64 0, .slice (some ⟨w.heap.size + 4, 0, none⟩) 0 0] 36
  have b5 : Below W4.heap.size W4 (W4.alloc (.cells #[.slice (some ⟨w.heap.size + 2, 0, none⟩) 0 0, .int .i64 0, .slice (some ⟨w.heap.size + 3, 0, none⟩) 0 0, .int .i64 0, .int .i64 0, .slice (some ⟨w.heap.size + 4, 0, none⟩) 0 0] 36)) := (Below.refl _ _).alloc (Nat.le_refl _) _
  rw [s4] at k5
  have c45 := b5
  have c35 := b4.trans (c45.mono (by omega))
  have c25 := b3.trans (c35.mono (by omega))
  have c15 := b2.trans (c25.mono (by omega))
  have c05 := b1.trans (c15.mono (by omega))
  exact ⟨⟨b0.trans (c05.mono (by omega)), k0.below c05, k1.below c15, k5⟩, ⟨o2.below c25, o4.below c45, o3.below c35, rfl, rfl, rfl, rfl⟩⟩

def st6 (W : World) (k : Nat) (v0 v1 v2 v3 v4 v5 : Value) : World := (((((W.setCell ⟨k, 0, none⟩ v0).setCell ⟨k, 1, none⟩ v1).setCell ⟨k, 2, none⟩ v2).setCell ⟨k, 3, none⟩ v3).setCell ⟨k, 4, none⟩ v4).setCell ⟨k, 5, none⟩ v5
theorem turn_st6 (W : World) (k : Nat) (v0 v1 v2 v3 v4 v5 : Value) : Turn (fun j => j = k) W (st6 W k v0 v1 v2 v3 v4 v5) :=
  (((((turn_set W k 0 v0).trans (turn_set _ k 1 v1)).trans (turn_set _ k 2 v2)).trans (turn_set _ k 3 v3)).trans (turn_set _ k 4 v4)).trans (turn_set _ k 5 v5)
theorem blk_st6 {W : World} {k : Nat} {t : TypeId} (h : Blk W k zL t) (v0 v1 v2 v3 v4 v5 : Value) : Blk (st6 W k v0 v1 v2 v3 v4 v5) k #[v0, v1, v2, v3, v4, v5] t :=
  (((((h.set 0 v0).set 1 v1).set 2 v2).set 3 v3).set 4 v4).set 5 v5
/-- the layout, laid into the answer's box -/
theorem lay_end {w W : World} (k1 : Blk W (w.heap.size + 1) zL 36) (v0 v1 v2 v3 v4 v5 : Value) (Q : Ending → World → Prop) (tmps : Array Value) (h4 : tmps[4]? = some (.pointer (some ⟨w.heap.size + 1, 0, none⟩))) (hQ : Q (.returned (.agg #[v0, v1, v2, v3, v4, v5])) (st6 W (w.heap.size + 1) v0 v1 v2 v3 v4 v5)) :
    bodyPost Tryz.prog Tryz.f162 Q Exit.ret ⟨tmps, []⟩ (st6 W (w.heap.size + 1) v0 v1 v2 v3 v4 v5) := by
  have k := blk_st6 k1 v0 v1 v2 v3 v4 v5
  have t0 : (st6 W (w.heap.size + 1) v0 v1 v2 v3 v4 v5).cell? ⟨w.heap.size + 1, 0, none⟩ = some v0 := k.cell 0
  have t1 : (st6 W (w.heap.size + 1) v0 v1 v2 v3 v4 v5).cell? ⟨w.heap.size + 1, 1, none⟩ = some v1 := k.cell 1
  have t2 : (st6 W (w.heap.size + 1) v0 v1 v2 v3 v4 v5).cell? ⟨w.heap.size + 1, 2, none⟩ = some v2 := k.cell 2
  have t3 : (st6 W (w.heap.size + 1) v0 v1 v2 v3 v4 v5).cell? ⟨w.heap.size + 1, 3, none⟩ = some v3 := k.cell 3
  have t4 : (st6 W (w.heap.size + 1) v0 v1 v2 v3 v4 v5).cell? ⟨w.heap.size + 1, 4, none⟩ = some v4 := k.cell 4
  have t5 : (st6 W (w.heap.size + 1) v0 v1 v2 v3 v4 v5).cell? ⟨w.heap.size + 1, 5, none⟩ = some v5 := k.cell 5
  refine bodyPost_ret_by (v := .agg #[v0, v1, v2, v3, v4, v5]) ?_ rfl hQ
  simp [results, Tryz.results162, go_sem, h4, t0, t1, t2, t3, t4, t5]

end Go.Proofs.YtngdgogjlpjjpaeGreat
