import Derived.Test.YtngdgogjlpjjpadP37
import Derived.Test.YtngdgogjlpjjpadP43
import Derived.Test.YtngdgogjlpjjpadP46
namespace Go.Proofs.Ytngdgogjlpjjpad
open Go.RowKit
set_option linter.unusedVariables false
set_option linter.unusedSimpArgs false
set_option maxRecDepth 100000
def AnyFn (zs : List Int) (k : Nat) (P : PMod) (k' : Nat) : Prop := ∀ (w : World) (r : Nat) (a : Option Addr) (n c : Nat) (h : Dst w w r a n c zs k), Calls Try.prog 21 #[.pointer (some ⟨r, 0, none⟩)] w (MoP w r a n c zs P k')
theorem any_end {W : World} {q : Nat} {cs : Array Value} (k1 : Blk W q cs 29) (hs : cs.size = 8) (v0 v1 v2 v3 v4 v5 v6 v7 : Value) (Q : Ending → World → Prop) (tmps : Array Value) (h4 : tmps[2]? = some (.pointer (some ⟨q, 0, none⟩))) (hQ : Q (.returned (.agg #[v0, v1, v2, v3, v4, v5, v6, v7])) (st8 W q v0 v1 v2 v3 v4 v5 v6 v7)) :
    bodyPost Try.prog Try.f21 Q Exit.ret ⟨tmps, []⟩ (st8 W q v0 v1 v2 v3 v4 v5 v6 v7) := by
  obtain ⟨t0, t1, t2, t3, t4, t5, t6, t7⟩ := (blk_st8 k1 hs v0 v1 v2 v3 v4 v5 v6 v7).eight'
  refine bodyPost_ret_by (v := .agg #[v0, v1, v2, v3, v4, v5, v6, v7]) ?_ rfl hQ
  simp [results, Try.results21, go_sem, h4, t0, t1, t2, t3, t4, t5, t6, t7]
theorem any_fin {w W : World} {r : Nat} {a : Option Addr} {n c : Nat} {zs : List Int} {k q : Nat} {P : PMod} {M : Ma} (D : Dst w W r a n c zs k) (hq : w.heap.size ≤ q) (res : Blk W q z8 29) (o : MO W w.heap.size P M) (ds : ∃ db, M.a3 = some ⟨db, 0, none⟩) (v0 v1 v2 v3 v4 v5 v6 v7 : Value) (e : #[v0, v1, v2, v3, v4, v5, v6, v7] = modV P M.a1 M.c1 M.a2 M.c2 M.bl M.a3 M.c3 M.a5 M.c5 M.a6 M.c6 M.a7 M.c7) : MoP w r a n c zs P k (.returned (.agg #[v0, v1, v2, v3, v4, v5, v6, v7])) (st8 W q v0 v1 v2 v3 v4 v5 v6 v7) :=
  ⟨M, by rw [e], D.grow ((turn_st8 W q _ _ _ _ _ _ _ _).mono (fun j hj => by subst hj; exact hq)), o.kept (turn_st8 W q _ _ _ _ _ _ _ _) (fun j hj => .inr (by subst hj; exact ⟨_, res⟩)), ds⟩
set_option maxHeartbeats 4000000 in
theorem l4Any_walk (zs : List Int) (k : Nat) (K : Int) (E1 : Hid (zs.getD k 0 = K)) (z0 : 0 ≤ K) (z1 : K ≤ 255) (Ps : List PMod) (k1 : Nat) (HM : Hid (ModsFn zs (k + 1) Ps k1)) (hl : 1 ≤ Ps.length) (hl3 : Ps.length ≤ 3) (t : Nat) (ht : (t : Int) = K % (Ps.length : Int)) (P : PMod) (HP : Hid (Ps[t]? = some P)) (P' : PMod) (k' : Nat) (HC : (K % 3 = 2 ∧ SpFn zs k1 P P' k') ∨ (¬ K % 3 = 2 ∧ P' = P ∧ k' = k1)) : AnyFn zs k P' k' := by
  intro w r a n c h
  have hB0 := al_below w (.cells #[.string ⟨#[]⟩, .slice none 0 0, .slice none 0 0, .slice none 0 0, .int .i64 0, .slice none 0 0, .slice none 0 0, .slice none 0 0] 29)
  have D0 := h.below hB0
  have R0 : Blk _ w.heap.size z8 29 := Blk.new w #[.string ⟨#[]⟩, .slice none 0 0, .slice none 0 0, .slice none 0 0, .int .i64 0, .slice none 0 0, .slice none 0 0, .slice none 0 0] 29
  have hlt := h.lt
  clear h hB0
  go_enter Try.func21, Try.ntmps21
  go_wp2_with fail
  refine (D0.next K E1).mono ?_
  rintro e w1 ⟨rfl, D1, t1⟩
  have R1 := turn_blk t1 R0 (by omega)
  have CC := hide (HM.out w1 r a n c D1.fresh)
  clear D0 R0 t1 HM
  go_wp2_with fail
  refine CC.out.mono ?_
  rintro e w2 ⟨g, cap, L, rfl, S, hL⟩
  have hs1 := D1.sz
  have hr1 := R1.lt
  have R2 := turn_blk S.d.t R1 (by omega)
  have D2 := D1.trans S.d
  obtain ⟨x, hx⟩ : ∃ x, L[t]? = some x := by
    have : t < L.length := by
      have h1 := congrArg List.length hL
      rw [List.length_map] at h1
      have h2 := Int.emod_lt_of_pos K (show (0 : Int) < (Ps.length : Int) by omega)
      omega
    exact ⟨L[t]'this, by rw [List.getElem?_eq_getElem]⟩
  have hxP : x.1 = P := by
    have h1 : Ps[t]? = some x.1 := by rw [← hL, List.getElem?_map, hx]; rfl
    rw [HP.out] at h1
    injection h1 with h1
    exact h1.symm
  obtain ⟨P0, M⟩ := x
  dsimp only at hxP
  subst hxP
  have c0 : w2.cell? ⟨g, t * 8, none⟩ = some (.string P0.nm) := S.cells hx 0 (by omega) _ rfl
  have c1 : w2.cell? ⟨g, t * 8 + 1, none⟩ = some (.slice M.a1 P0.tz.length M.c1) := S.cells hx 1 (by omega) _ rfl
  have c2 : w2.cell? ⟨g, t * 8 + 2, none⟩ = some (.slice M.a2 M.bl.length M.c2) := S.cells hx 2 (by omega) _ rfl
  have c3 : w2.cell? ⟨g, t * 8 + 3, none⟩ = some (.slice M.a3 P0.dz.length M.c3) := S.cells hx 3 (by omega) _ rfl
  have c4 : w2.cell? ⟨g, t * 8 + 4, none⟩ = some (.int .i64 P0.bss) := S.cells hx 4 (by omega) _ rfl
  have c5 : w2.cell? ⟨g, t * 8 + 5, none⟩ = some (.slice M.a5 P0.rz.length M.c5) := S.cells hx 5 (by omega) _ rfl
  have c6 : w2.cell? ⟨g, t * 8 + 6, none⟩ = some (.slice M.a6 P0.ss.length M.c6) := S.cells hx 6 (by omega) _ rfl
  have c7 : w2.cell? ⟨g, t * 8 + 7, none⟩ = some (.slice M.a7 P0.es.length M.c7) := S.cells hx 7 (by omega) _ rfl
  obtain ⟨mo, ds⟩ := S.m t (P0, M) hx
  dsimp only at mo ds
  have hvm : K.tmod (Ps.length : Int) = (t : Int) := by rw [Int.tmod_eq_emod_of_nonneg z0, ht]
  have htm' : (t : Int) < (Ps.length : Int) := by have := Int.emod_lt_of_pos K (show (0 : Int) < (Ps.length : Int) by omega); omega
  have hm0 : ¬ (Ps.length : Int) = 0 := by omega
  have b3 := al_below w2 (.cells #[.string P0.nm, .slice M.a1 P0.tz.length M.c1, .slice M.a2 M.bl.length M.c2, .slice M.a3 P0.dz.length M.c3, .int .i64 P0.bss, .slice M.a5 P0.rz.length M.c5, .slice M.a6 P0.ss.length M.c6, .slice M.a7 P0.es.length M.c7] 29)
  have R3 := R2.below b3
  obtain ⟨r0, r1, r2, r3, r4, r5, r6, r7⟩ := z8_cells R3
  obtain ⟨s0, s1, s2, s3, s4, s5, s6, s7⟩ := R3.froz
  have HS := hide (And.intro S (And.intro D1 (And.intro D2 (And.intro R2 (And.intro mo ds)))))
  have HR3 := hide R3
  have HR1 := hide R1
  have HB3 := hide b3
  clear S D1 D2 R2 mo ds R1 CC hL hx HP ht b3 R3
  rcases HC with ⟨hc, SP⟩ | ⟨hc, rfl, rfl⟩
  · obtain ⟨S, D1, D2, R2, mo, ds⟩ := HS.out
    have CS := hide (SP w1 _ r a n c M (S.d.below HB3.out) (mo.below HB3.out) ds)
    clear S D1 D2 R2 mo ds SP
    go_wp2_with fail
    refine CS.out.mono ?_
    rintro e w4 ⟨M', rfl, D4, mo4, ds4⟩
    obtain ⟨S, D1, D2, R2, mo, ds⟩ := HS.out
    have R1' : Blk w1 w.heap.size z8 29 := HR1.out
    have R4 := turn_blk D4.t R1' (by omega)
    have HF := hide (And.intro (D1.trans D4) (And.intro R4 (And.intro (mo4.mono hs1) ds4)))
    obtain ⟨r0, r1, r2, r3, r4, r5, r6, r7⟩ := z8_cells R4
    obtain ⟨s0, s1, s2, s3, s4, s5, s6, s7⟩ := R4.froz
    clear S D1 D2 R2 mo ds R1' R4 D4 mo4 ds4 CS HS
    unfold modV
    go_wp2
    refine any_end HF.out.2.1 rfl _ _ _ _ _ _ _ _ _ _ rfl ?_
    exact any_fin HF.out.1 (Nat.le_refl _) HF.out.2.1 HF.out.2.2.1 HF.out.2.2.2 _ _ _ _ _ _ _ _ rfl
  · go_wp2
    obtain ⟨S, D1, D2, R2, mo, ds⟩ := HS.out
    refine any_end HR3.out rfl _ _ _ _ _ _ _ _ _ _ rfl ?_
    exact any_fin (D2.below HB3.out) (Nat.le_refl _) HR3.out ((mo.below HB3.out).mono hs1) ds _ _ _ _ _ _ _ _ rfl
theorem l4Any_fn (zs : List Int) (hz : ∀ j, 0 ≤ zs.getD j 0 ∧ zs.getD j 0 ≤ 255) (k : Nat) : ∃ y : PMod × Nat, DoR y.1 ∧ AnyFn zs k y.1 y.2 := by
  obtain ⟨K, E1, z0, z1⟩ := draw_of hz k
  obtain ⟨⟨Ps, k1⟩, ⟨h1, h3, hD⟩, hM⟩ := l4Modules_fn zs hz (k + 1)
  dsimp only at h1 h3 hD hM
  obtain ⟨t, ht⟩ : ∃ t : Nat, (t : Int) = K % (Ps.length : Int) := ⟨(K % (Ps.length : Int)).toNat, by have := Int.emod_nonneg K (show (Ps.length : Int) ≠ 0 by omega); omega⟩
  have htl : t < Ps.length := by have := Int.emod_lt_of_pos K (show (0 : Int) < (Ps.length : Int) by omega); omega
  have hP : Ps[t]? = some Ps[t] := List.getElem?_eq_getElem htl
  have DP := hD _ (List.getElem_mem htl)
  by_cases hc : K % 3 = 2
  · obtain ⟨⟨P', k'⟩, h1', h2'⟩ := l4Spoil_fn zs hz k1 Ps[t] DP
    exact ⟨(P', k'), h1', l4Any_walk zs k K E1 z0 z1 Ps k1 (hide hM) h1 h3 t ht Ps[t] (hide hP) P' k' (.inl ⟨hc, h2'⟩)⟩
  · exact ⟨(Ps[t], k1), DP.dor, l4Any_walk zs k K E1 z0 z1 Ps k1 (hide hM) h1 h3 t ht Ps[t] (hide hP) Ps[t] k1 (.inr ⟨hc, rfl, rfl⟩)⟩
theorem take_byt2 {zs : List Int} (h : Byt zs) (m : Nat) : ∀ j, 0 ≤ (zs.take m).getD j 0 ∧ (zs.take m).getD j 0 ≤ 255 := fun j => by
  rw [List.getD_eq_getElem?_getD]
  cases e : (zs.take m)[j]? with
  | none => exact ⟨by simp, by simp⟩
  | some z => exact h z (List.mem_of_mem_take (List.mem_of_getElem? e))
theorem bs_lt2 {w : World} {a : Option Addr} {n c : Nat} {zs : List Int} (h : BS w a n c zs) : n ≠ 0 → ∀ b off, a = some ⟨b, off, none⟩ → b < w.heap.size := by
  intro hn b off e
  subst e
  exact World.block_lt_of_cell? w _ (h.at 0 (by omega))
set_option maxHeartbeats 2000000 in
theorem DrawParse_fn (zs : List Int) (hz : Byt zs) : ∃ B : List Int, (Byt B ∧ B.length ≤ 20001) ∧ ∀ (w : World) (a : Option Addr) (n c : Nat) (h : BS w a n c zs), Calls Try.prog 5 #[.slice a n c] w (OutP w B) := by
  have hz' := take_byt2 hz 1000
  obtain ⟨K, E1, z0, z1⟩ := draw_of hz' 0
  obtain ⟨⟨P, k1⟩, DP, HA⟩ := l4Any_fn (zs.take 1000) hz' 1
  obtain ⟨⟨B, k2⟩, ⟨hB, hBl⟩, HI⟩ := l4Image_fn (zs.take 1000) hz' k1 P DP
  dsimp only at HA HI hB hBl
  have walk : ∀ (B2 : List Int), (K = 255 ∧ B2 = B ++ List.replicate (20001 - B.length) 0) ∨ (¬ K = 255 ∧ B2 = B) → ∀ (w : World) (a : Option Addr) (n c : Nat) (h : BS w a n c zs), Calls Try.prog 5 #[.slice a n c] w (OutP w B2) := by
    intro B2 hc w a n c h
    have HA := hide HA
    have HI := hide HI
    have hlt := bs_lt2 h
    have HO := hide (l1Open_any a n c (min n 1000) zs w h rfl)
    have HLT := hide hlt
    clear hlt h
    go_enter Try.func5, Try.ntmps5
    go_wp2_with fail
    refine HO.out.mono ?_
    rintro e w1 ⟨rfl, rd, b1⟩
    have hs1 := rd.blk.lt
    have D1 := Dst.new rd (fun hn b off e => by have := HLT.out (by omega) b off e; omega)
    have HB1 := hide b1
    clear rd b1 HO HLT
    go_wp2_with fail
    refine (D1.next K E1).mono ?_
    rintro e w2 ⟨rfl, D2, t2⟩
    have B2' := below_turn HB1.out t2 (fun k hk => by omega) HB1.out.size
    have CC := hide (HA.out w2 _ _ _ _ D2.fresh)
    have HB2 := hide B2'
    clear D1 t2 B2' HB1 HA
    go_wp2_with fail
    refine CC.out.mono ?_
    rintro e w3 ⟨M, rfl, D3, mo, ds⟩
    have CI := hide (HI.out w2 w3 _ _ _ _ M D3 mo ds)
    clear D3 mo ds CC HI
    unfold modV
    go_wp2_with fail
    refine CI.out.mono ?_
    rintro e w4 ⟨g, m, cap, rfl, D4, o4⟩
    have hm := o4.bs.1
    have hs2 := HB2.out.size
    have B4 := below_turn HB2.out D4.t (fun k hk => by omega) HB2.out.size
    have hs4 := D4.sz
    rcases hc with ⟨hk, e2⟩ | ⟨hk, e2⟩
    · obtain ⟨kz, hkz⟩ : ∃ kz : Nat, kz = 20001 - m := ⟨_, rfl⟩
      obtain ⟨q', d, w5, h1, h2, h3⟩ := own_zerosB (o4.mono hs2) kz (by omega) (by omega) (by omega) 22 B4.size
      have hkz' : (20001 : Int) - (m : Int) = (kz : Int) := by omega
      have e2' : B2 = B ++ List.replicate kz 0 := by rw [e2, hm, hkz]
      have hgl := (o4.lt g rfl).1
      have HF := hide (And.intro h2 (below_turn B4 (grown_trn h3) (fun j hj => by injection hj with hj; omega) B4.size))
      have HE2 := hide e2'
      have HR := hide h1
      clear hkz e2 e2' h1 h2 h3 o4 D4 B4 CI hm
      go_wp2_with (at_builtin; refine Lib.wpList_append_run _ rfl _ _ _ _ rfl _ _ rfl rfl _ _ HR.out ?_)
      go_wp2
      go_ret
      rw [HE2.out]
      exact ⟨q', m + kz, d, rfl, HF.out.1, HF.out.2⟩
    · subst e2
      have HF := hide (And.intro (o4.mono hs2) B4)
      clear o4 D4 B4 CI hm
      go_wp2
      go_ret
      exact ⟨g, m, cap, rfl, HF.out.1, HF.out.2⟩
  by_cases hk : K = 255
  · refine ⟨_, ⟨?_, ?_⟩, walk _ (.inl ⟨hk, rfl⟩)⟩
    · intro z hz
      rcases List.mem_append.1 hz with hz | hz
      · exact hB z hz
      · have := List.eq_of_mem_replicate hz; omega
    · simp
      omega
  · exact ⟨B, ⟨hB, by omega⟩, walk B (.inr ⟨hk, rfl⟩)⟩
end Go.Proofs.Ytngdgogjlpjjpad
