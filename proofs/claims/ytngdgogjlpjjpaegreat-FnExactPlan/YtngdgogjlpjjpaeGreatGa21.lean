import Derived.Test.YtngdgogjlpjjpaeGreatGa20
import Derived.Deep.RegionLaw
namespace Go.Proofs.YtngdgogjlpjjpaeGreat
open Go.RowKit
set_option linter.unusedVariables false
set_option linter.unusedSimpArgs false
set_option maxRecDepth 100000

structure Kin (w W : World) (s c k d : Int) : Prop where
  be : Below w.heap.size w W
  k0 : Blk W w.heap.size #[.int .i64 s, .int .i64 c, .int .i64 k, .int .i64 d] 44
  k1 : Blk W (w.heap.size + 1) zL 36
theorem Kin.below {w W W' : World} {s c k d : Int} (h : Kin w W s c k d) (hb : Below W.heap.size W W') : Kin w W' s c k d := ⟨h.be.trans (hb.mono h.be.size), h.k0.below hb, h.k1.below hb⟩
theorem Kin.drew {w W : World} {s c k d : Int} (h : Kin w W s c k d) : Kin w W.drew s c k d := ⟨h.be.drew, h.k0, h.k1⟩
theorem kin_new (w : World) (s c k d : Int) : Kin w ((w.alloc (.cells #[.int .i64 s, .int .i64 c, .int .i64 k, .int .i64 d] 44)).alloc (.cells #[.slice none 0 0, .int .i64 0, .slice none 0 0, .int .i64 0, .int .i64 0, .slice none 0 0] 36)) s c k d := by
  have k0 := Blk.new w #[.int .i64 s, .int .i64 c, .int .i64 k, .int .i64 d] 44
  have b0 : Below w.heap.size w (w.alloc (.cells #[.int .i64 s, .int .i64 c, .int .i64 k, .int .i64 d] 44)) := (Below.refl _ _).alloc (Nat.le_refl _) _
  have s0 : (w.alloc (.cells #[.int .i64 s, .int .i64 c, .int .i64 k, .int .i64 d] 44)).heap.size = w.heap.size + 1 := by simp
  generalize w.alloc (.cells #[.int .i64 s, .int .i64 c, .int .i64 k, .int .i64 d] 44) = W0 at *
  have k1 := Blk.new W0 #[.slice none 0 0, .int .i64 0, .slice none 0 0, .int .i64 0, .int .i64 0, .slice none 0 0] 36
  have b1 : Below W0.heap.size W0 (W0.alloc (.cells #[.slice none 0 0, .int .i64 0, .slice none 0 0, .int .i64 0, .int .i64 0, .slice none 0 0] 36)) := (Below.refl _ _).alloc (Nat.le_refl _) _
  rw [s0] at k1
  exact ⟨b0.trans (b1.mono (by omega)), k0.below b1, k1⟩
/-- the ends of Link -/
theorem link_endI {w W : World} (k1 : Blk W (w.heap.size + 1) zL 36) (v0 v1 v2 v3 v4 v5 : Value) (V : Int) (Q : Ending → World → Prop) (tmps : Array Value) (h4 : tmps[4]? = some (.pointer (some ⟨w.heap.size + 1, 0, none⟩))) (h5 : tmps[5]? = some (.int .i64 V)) (hQ : Q (.returned (.tuple #[.agg #[v0, v1, v2, v3, v4, v5], .int .i64 V])) (st6 W (w.heap.size + 1) v0 v1 v2 v3 v4 v5)) :
    bodyPost Tryz.prog Tryz.f76 Q Exit.ret ⟨tmps, []⟩ (st6 W (w.heap.size + 1) v0 v1 v2 v3 v4 v5) := by
  have k := blk_st6 k1 v0 v1 v2 v3 v4 v5
  have t0 : (st6 W (w.heap.size + 1) v0 v1 v2 v3 v4 v5).cell? ⟨w.heap.size + 1, 0, none⟩ = some v0 := k.cell 0
  have t1 : (st6 W (w.heap.size + 1) v0 v1 v2 v3 v4 v5).cell? ⟨w.heap.size + 1, 1, none⟩ = some v1 := k.cell 1
  have t2 : (st6 W (w.heap.size + 1) v0 v1 v2 v3 v4 v5).cell? ⟨w.heap.size + 1, 2, none⟩ = some v2 := k.cell 2
  have t3 : (st6 W (w.heap.size + 1) v0 v1 v2 v3 v4 v5).cell? ⟨w.heap.size + 1, 3, none⟩ = some v3 := k.cell 3
  have t4 : (st6 W (w.heap.size + 1) v0 v1 v2 v3 v4 v5).cell? ⟨w.heap.size + 1, 4, none⟩ = some v4 := k.cell 4
  have t5 : (st6 W (w.heap.size + 1) v0 v1 v2 v3 v4 v5).cell? ⟨w.heap.size + 1, 5, none⟩ = some v5 := k.cell 5
  refine bodyPost_ret_by (v := .tuple #[.agg #[v0, v1, v2, v3, v4, v5], .int .i64 V]) ?_ rfl hQ
  simp [results, Tryz.results76, go_sem, h4, h5, t0, t1, t2, t3, t4, t5]
theorem link_noI {w W : World} {ps : List PMod} {s c k d V : Int} (S : Kin w W s c k d) (hV : lkc ps s c k d = V) (h0 : V ≠ 0) (tmps : Array Value) (h4 : tmps[4]? = some (.pointer (some ⟨w.heap.size + 1, 0, none⟩))) (h5 : tmps[5]? = some (.int .i64 V)) :
    bodyPost Tryz.prog Tryz.f76 (LkM w ps s c k d) Exit.ret ⟨tmps, []⟩ (st6 W (w.heap.size + 1) (.slice none 0 0) (.int .i64 0) (.slice none 0 0) (.int .i64 0) (.int .i64 0) (.slice none 0 0)) :=
  link_endI S.k1 _ _ _ _ _ _ V _ tmps h4 h5 (lk_none (below_turn S.be (turn_st6 _ _ _ _ _ _ _ _) (fun j hj => by have e : j = w.heap.size + 1 := hj; omega) S.be.size) hV h0)
end Go.Proofs.YtngdgogjlpjjpaeGreat
