import Derived.Test.YtngdgogjlpjjpacP49
namespace Go.Proofs.Ytngdgogjlpjjpac
open Go.RowKit
set_option linter.unusedVariables false
set_option linter.unusedSimpArgs false
set_option maxRecDepth 100000
def DmP (w : World) (P : PMod) (e : Ending) (w' : World) : Prop := ∃ M : Ma, e = .returned (.agg #[.string P.nm, .slice M.a1 P.tz.length M.c1, .slice M.a2 M.bl.length M.c2, .slice M.a3 P.dz.length M.c3, .int .i64 P.bss, .slice M.a5 P.rz.length M.c5, .slice M.a6 P.ss.length M.c6, .slice M.a7 P.es.length M.c7]) ∧ MO w' w.heap.size P M ∧ (∃ db, M.a3 = some ⟨db, 0, none⟩) ∧ Below w.heap.size w w'
theorem dm_end {W : World} {q : Nat} {cs : Array Value} (k1 : Blk W q cs 56) (hs : cs.size = 8) (v0 v1 v2 v3 v4 v5 v6 v7 : Value) (Q : Ending → World → Prop) (tmps : Array Value) (h4 : tmps[2]? = some (.pointer (some ⟨q, 0, none⟩))) (hQ : Q (.returned (.agg #[v0, v1, v2, v3, v4, v5, v6, v7])) (st8 W q v0 v1 v2 v3 v4 v5 v6 v7)) :
    bodyPost Try.prog Try.f28 Q Exit.ret ⟨tmps, []⟩ (st8 W q v0 v1 v2 v3 v4 v5 v6 v7) := by
  obtain ⟨t0, t1, t2, t3, t4, t5, t6, t7⟩ := (blk_st8 k1 hs v0 v1 v2 v3 v4 v5 v6 v7).eight'
  refine bodyPost_ret_by (v := .agg #[v0, v1, v2, v3, v4, v5, v6, v7]) ?_ rfl hQ
  simp [results, Try.results28, go_sem, h4, t0, t1, t2, t3, t4, t5, t6, t7]
theorem take_byt {zs : List Int} (h : Byt zs) (m : Nat) : ∀ j, 0 ≤ (zs.take m).getD j 0 ∧ (zs.take m).getD j 0 ≤ 255 := fun j => by
  rw [List.getD_eq_getElem?_getD]
  cases e : (zs.take m)[j]? with
  | none => exact ⟨by simp, by simp⟩
  | some z => exact h z (List.mem_of_mem_take (List.mem_of_getElem? e))
theorem bs_lt {w : World} {a : Option Addr} {n c : Nat} {zs : List Int} (h : BS w a n c zs) : n ≠ 0 → ∀ b off, a = some ⟨b, off, none⟩ → b < w.heap.size := by
  intro hn b off e
  subst e
  exact World.block_lt_of_cell? w _ (h.at 0 (by omega))
set_option maxHeartbeats 2000000 in
theorem DrawModuleOk_fn (zs : List Int) (hz : Byt zs) : ∃ P : PMod, DoR P ∧ ∀ (w : World) (a : Option Addr) (n c : Nat) (h : BS w a n c zs), Calls Try.prog 28 #[.slice a n c] w (DmP w P) := by
  obtain ⟨⟨P, k'⟩, DP, HA⟩ := l4Any_fn (zs.take 1000) (take_byt hz 1000) 0
  refine ⟨P, DP, fun w a n c h => ?_⟩
  have HA := hide HA
  have hB0 := al_below w (.cells #[.string ⟨#[]⟩, .slice none 0 0, .slice none 0 0, .slice none 0 0, .int .i64 0, .slice none 0 0, .slice none 0 0, .slice none 0 0] 56)
  have h1 := h.below hB0
  have hlt := bs_lt h
  have R0 : Blk _ w.heap.size z8 56 := Blk.new w #[.string ⟨#[]⟩, .slice none 0 0, .slice none 0 0, .slice none 0 0, .int .i64 0, .slice none 0 0, .slice none 0 0, .slice none 0 0] 56
  have hs0 : (w.alloc (.cells #[.string ⟨#[]⟩, .slice none 0 0, .slice none 0 0, .slice none 0 0, .int .i64 0, .slice none 0 0, .slice none 0 0, .slice none 0 0] 56)).heap.size = w.heap.size + 1 := by simp
  have HO := hide (l1Open_any a n c (min n 1000) zs _ h1 rfl)
  rw [hs0] at HO
  have HB := hide (And.intro hB0 (And.intro hlt R0))
  clear hB0 hlt R0 h1 h
  go_enter Try.func28, Try.ntmps28
  go_wp2_with fail
  refine HO.out.mono ?_
  rintro e w1 ⟨rfl, rd, hb1⟩
  obtain ⟨hB0, hlt, R0⟩ := HB.out
  have B1 : Below w.heap.size w w1 := hB0.trans (hb1.mono (by omega))
  have R1 := R0.below (by rw [hs0]; exact hb1)
  have hs1 := rd.blk.lt
  have CC := hide (HA.out w1 _ a _ c (Dst.new rd (fun hn b off e => by have := hlt (by omega) b off e; omega)))
  have HB1 := hide (And.intro B1 R1)
  clear hB0 hlt R0 B1 R1 HO HB hb1 rd HA
  go_wp2_with fail
  refine CC.out.mono ?_
  rintro e w2 ⟨M, rfl, D2, mo, ds⟩
  obtain ⟨B1, R1⟩ := HB1.out
  have R2 := turn_blk D2.t R1 (by omega)
  have B2 := below_turn B1 D2.t (fun k hk => by omega) B1.size
  obtain ⟨r0, r1, r2, r3, r4, r5, r6, r7⟩ := z8_cells R2
  obtain ⟨s0, s1, s2, s3, s4, s5, s6, s7⟩ := R2.froz
  have HF := hide (And.intro R2 (And.intro B2 (And.intro (mo.mono B1.size) ds)))
  clear R1 B1 R2 B2 mo ds D2 CC HB1
  unfold modV
  go_wp2
  refine dm_end HF.out.1 rfl _ _ _ _ _ _ _ _ _ _ rfl ?_
  obtain ⟨R2, B2, mo, ds⟩ := HF.out
  exact ⟨M, rfl, mo.kept (turn_st8 w2 w.heap.size _ _ _ _ _ _ _ _) (fun j hj => .inr (by subst hj; exact ⟨_, R2⟩)), ds, below_turn B2 (turn_st8 w2 w.heap.size _ _ _ _ _ _ _ _) (fun k hk => by omega) B2.size⟩
end Go.Proofs.Ytngdgogjlpjjpac
