import Derived.Test.YtngdgogjlpjjpadP00
import Derived.Test.YtngdgogjlpjjpadP02
import Derived.Test.YtngdgogjlpjjpadP03
import Derived.Test.YtngdgogjlpjjpadP06
import Derived.Test.YtngdgogjlpjjpadP17
import Derived.Test.YtngdgogjlpjjpadP26
import Derived.Test.YtngdgogjlpjjpadP27
import Derived.Test.YtngdgogjlpjjpadP31
import Derived.Test.YtngdgogjlpjjpadP34
namespace Go.Proofs.Ytngdgogjlpjjpad
open Go.RowKit
set_option linter.unusedVariables false
set_option linter.unusedSimpArgs false
set_option maxRecDepth 100000
set_option maxHeartbeats 2000000 in
theorem sp6_3 (zs : List Int) (k : Nat) (K V : Int) (E1 : Hid (zs.getD k 0 = K)) (E2 : Hid (zs.getD (k + 1) 0 = V)) (z0 : 0 ≤ K) (z1 : K ≤ 255) (y0 : 0 ≤ V) (y1 : V ≤ 255) (P : PMod) (DP : DnR P) (c0 : K % 12 = 6) (c1 : V % 5 = 3) : SpFn zs k P { P with rz := P.rz ++ [(P.dz.length : Int)] } (k + 2) := by
  intro w W r a n c M D o ds
  have R0 := mr_spoil D o ds
  have hs0 := D.sz
  have hrl : P.rz.length ≤ 1 := by rcases DP.r with e | e <;> rw [e] <;> simp
  have hdl := DP.d.1
  clear D o ds
  go_enter Try.func60, Try.ntmps60
  go_wp2_with fail
  refine (R0.next K E1).mono ?_
  rintro e w1 ⟨rfl, R1⟩
  clear R0
  go_wp2_with fail
  refine (R1.next V E2).mono ?_
  rintro e w2 ⟨rfl, R2⟩
  clear R1 E1 E2
  obtain ⟨p0, q0⟩ := R2.two 5 (.slice M.a5 P.rz.length M.c5) rfl
  obtain ⟨p1, q1⟩ := (R2.below (al_below w2 (.cells #[.int .i64 2, .int .i64 0, .int .i64 ((P.dz.length : Int) - 4), .int .i64 ((P.dz.length : Int)), .int .i64 (-4)] 3))).two 5 (.slice M.a5 P.rz.length M.c5) rfl
  obtain ⟨p2, q2⟩ := ((R2.below (al_below w2 (.cells #[.int .i64 2, .int .i64 0, .int .i64 ((P.dz.length : Int) - 4), .int .i64 ((P.dz.length : Int)), .int .i64 (-4)] 3))).below (al_below (w2.alloc (.cells #[.int .i64 2, .int .i64 0, .int .i64 ((P.dz.length : Int) - 4), .int .i64 ((P.dz.length : Int)), .int .i64 (-4)] 3)) (.cells #[.int .i64 ((P.dz.length : Int))] 3))).two 5 (.slice M.a5 P.rz.length M.c5) rfl
  have HM0 := hide ((R2.drew.below (al_below w2.drew (.cells #[.int .i64 2, .int .i64 0, .int .i64 ((P.dz.length : Int) - 4), .int .i64 ((P.dz.length : Int)), .int .i64 (-4)] 3))).below (al_below (w2.drew.alloc (.cells #[.int .i64 2, .int .i64 0, .int .i64 ((P.dz.length : Int) - 4), .int .i64 ((P.dz.length : Int)), .int .i64 (-4)] 3)) (.cells #[.int .i64 ((P.dz.length : Int))] 3)))
  have HM1 := hide ((R2.below (al_below w2 (.cells #[.int .i64 2, .int .i64 0, .int .i64 ((P.dz.length : Int) - 4), .int .i64 ((P.dz.length : Int)), .int .i64 (-4)] 3))).drew.below (al_below (w2.alloc (.cells #[.int .i64 2, .int .i64 0, .int .i64 ((P.dz.length : Int) - 4), .int .i64 ((P.dz.length : Int)), .int .i64 (-4)] 3)).drew (.cells #[.int .i64 ((P.dz.length : Int))] 3)))
  have HM2 := hide ((R2.below (al_below w2 (.cells #[.int .i64 2, .int .i64 0, .int .i64 ((P.dz.length : Int) - 4), .int .i64 ((P.dz.length : Int)), .int .i64 (-4)] 3))).below (al_below (w2.alloc (.cells #[.int .i64 2, .int .i64 0, .int .i64 ((P.dz.length : Int) - 4), .int .i64 ((P.dz.length : Int)), .int .i64 (-4)] 3)) (.cells #[.int .i64 ((P.dz.length : Int))] 3))).drew
  have HM3 := hide ((R2.below (al_below w2 (.cells #[.int .i64 2, .int .i64 0, .int .i64 ((P.dz.length : Int) - 4), .int .i64 ((P.dz.length : Int)), .int .i64 (-4)] 3))).below (al_below (w2.alloc (.cells #[.int .i64 2, .int .i64 0, .int .i64 ((P.dz.length : Int) - 4), .int .i64 ((P.dz.length : Int)), .int .i64 (-4)] 3)) (.cells #[.int .i64 ((P.dz.length : Int))] 3)))
  have HO0 := hide HM0.out.m.o.r
  have hS0 := HM0.out.m.d.sz
  have HO1 := hide HM1.out.m.o.r
  have hS1 := HM1.out.m.d.sz
  have HO2 := hide HM2.out.m.o.r
  have hS2 := HM2.out.m.d.sz
  have HO3 := hide HM3.out.m.o.r
  have hS3 := HM3.out.m.d.sz
  have HN0 := hide (cells_at (w2.drew.alloc (.cells #[.int .i64 2, .int .i64 0, .int .i64 ((P.dz.length : Int) - 4), .int .i64 ((P.dz.length : Int)), .int .i64 (-4)] 3)) (w2.heap.size + 1) _ 3 (clI ((P.dz.length : Int))) rfl (by simp [drw_sz]))
  have HN1 := hide (cells_at (w2.alloc (.cells #[.int .i64 2, .int .i64 0, .int .i64 ((P.dz.length : Int) - 4), .int .i64 ((P.dz.length : Int)), .int .i64 (-4)] 3)).drew (w2.heap.size + 1) _ 3 (clI ((P.dz.length : Int))) rfl (by simp [drw_sz]))
  have HN2 := hide (cells_at (w2.alloc (.cells #[.int .i64 2, .int .i64 0, .int .i64 ((P.dz.length : Int) - 4), .int .i64 ((P.dz.length : Int)), .int .i64 (-4)] 3)) (w2.heap.size + 1) _ 3 (clI ((P.dz.length : Int))) rfl (by simp [drw_sz]))
  have HN3 := hide (cells_at (w2.alloc (.cells #[.int .i64 2, .int .i64 0, .int .i64 ((P.dz.length : Int) - 4), .int .i64 ((P.dz.length : Int)), .int .i64 (-4)] 3)) (w2.heap.size + 1) _ 3 (clI ((P.dz.length : Int))) rfl (by simp [drw_sz]))
  have ct : V.tmod 5 = 3 := by rw [Int.tmod_eq_emod_of_nonneg y0]; exact c1
  have ew : IntKind.i64.wrap ((P.dz.length : Int) - 4) = (P.dz.length : Int) - 4 := wrap_small _ (by omega) (by omega)
  obtain ⟨pd, qd⟩ := R2.two 3 (.slice M.a3 P.dz.length M.c3) rfl
  obtain ⟨iI, hiI, hz0iI, hz1iI, hz2iI⟩ := info_parts infoI
  have HR2 := hide R2
  clear R2
  go_wp2_with fail
  go_region_law (first
    | (refine step_append_lies _ rfl _ _ 24 rfl w.heap.size 3 iI (.int .i64 0) 1 8 Try.underlying24 hiI hz0iI hz1iI hz2iI rfl (by decide) (.slice M.a5 P.rz.length M.c5) P.rz.length (P.rz.flatMap clI) rfl (by first | exact HO0.out | exact HO1.out | exact HO2.out | exact HO3.out) ⟨w2.heap.size + 1, 0, none⟩ 1 1 (clI ((P.dz.length : Int))) rfl rfl (by first | exact HN0.out | exact HN1.out | exact HN2.out | exact HN3.out) (by intro u hu; simp [clI, clT, clX] at hu; first | (subst hu; rfl) | (rcases hu with rfl | rfl | rfl <;> rfl)) (by decide) (by unfold maxLen; omega) (by omega) (by first | exact hS0 | exact hS1 | exact hS2 | exact hS3) _ rfl ?_; intro g4 c4 w5 hown hgr hat hlt4; obtain ⟨p9, q9⟩ := (show _ ∧ _ from (by first | exact HM0.out.cell4 HO0.out hgr (by decide) 5 (u := .slice M.a5 P.rz.length M.c5) rfl | exact HM1.out.cell4 HO1.out hgr (by decide) 5 (u := .slice M.a5 P.rz.length M.c5) rfl | exact HM2.out.cell4 HO2.out hgr (by decide) 5 (u := .slice M.a5 P.rz.length M.c5) rfl | exact HM3.out.cell4 HO3.out hgr (by decide) 5 (u := .slice M.a5 P.rz.length M.c5) rfl))))
  all_goals
    have HF := hide (show MR w (w5.setCell ⟨W.heap.size, 5, none⟩ (.slice (some ⟨g4, 0, none⟩) (P.rz.length + 1) c4)) r a n c zs (k + 1 + 1) W.heap.size (W.heap.size + 1) _ _ from (by first | exact MR.reloc (x := (P.dz.length : Int)) HM0.out hown hgr hat | exact MR.reloc (x := (P.dz.length : Int)) HM1.out hown hgr hat | exact MR.reloc (x := (P.dz.length : Int)) HM2.out hown hgr hat | exact MR.reloc (x := (P.dz.length : Int)) HM3.out hown hgr hat))
    clear HM0 HO0 HN0 hS0 HM1 HO1 HN1 hS1 HM2 HO2 HN2 hS2 HM3 HO3 HN3 hS3 hown hgr hat hlt4 p9 q9 p0 q0 p1 q1 p2 q2 HR2
    generalize w5.setCell ⟨W.heap.size, 5, none⟩ (.slice (some ⟨g4, 0, none⟩) (P.rz.length + 1) c4) = W5 at *
    obtain ⟨b0, b1, b2, b3, b4, b5, b6, b7⟩ := HF.out.m.box.eight'
    obtain ⟨f0, f1, f2, f3, f4, f5, f6, f7⟩ := HF.out.m.box.froz
    obtain ⟨r0, r1, r2, r3, r4, r5, r6, r7⟩ := z8_cells HF.out.res
    obtain ⟨s0, s1, s2, s3, s4, s5, s6, s7⟩ := HF.out.res.froz
    go_wp2
    refine spl_end HF.out.res rfl _ _ _ _ _ _ _ _ _ _ rfl ?_
    exact spl_fin HF.out _ _ _ _ _ _ _ _ (by simp [modV])
section
variable {P : Program} (w : World)
theorem run_append_room_zerosB (t tn ty e : TypeId) (i : TypeInfo) (kn : IntKind) (ht : P.underlying t = some (.slice e)) (htn : P.underlying tn = some (.int kn)) (hi : P.info? e = some i) (hz : i.zero = some (.int .u8 0)) (hs1 : i.size = 1) (hby : i.bytes = 1)
    (g sLen sCap : Nat) (cur : Array Value) (hg : w.heap[g]? = some (.cells cur e (0, 0))) (k : Nat) (h0 : 0 < k) (hk : k ≤ 30000) (hroom : sLen + k ≤ sCap) (hfit : sLen + k ≤ cur.size) :
    (Builtin.append_ #[t, tn] ty #[.slice (some ⟨g, 0, none⟩) sLen sCap, .int .i64 k]).run P w =
      .ok (.slice (some ⟨g, 0, none⟩) (sLen + k) sCap) (w.setRow g (cur.toList.take sLen ++ zcs k ++ cur.toList.drop (sLen + k)).toArray) := by
  have hst := run_storeCells_at P g sLen e (zcs k) 0 cur w hg (by simpa [zcs_len] using hfit) (zcs_one k)
  simp only [Nat.add_zero, zcs_len] at hst
  have hw : IntKind.i64.wrap (k : Int) = k := by rw [IntKind.wrap_i64]; omega
  have h48i : ¬ (281474976710656 < (k : Int)) := by omega
  have hneg : ¬ ((k : Int) < 0) := by omega
  have hne : k ≠ 0 := by omega
  simp [Builtin.append_, run_underlying ht, run_underlying htn, sizeOf, typeInfo, zeroValue, hi, hz, hs1, hby, asInt, asIntOf, hw, hneg, hne, h48i, hroom, zero_cells, Addr.add_lit, hst]
end
theorem grow_zerosB {w : World} {q n c : Nat} {out : List Int} (h : BS w (some ⟨q, 0, none⟩) n c out) (k : Nat) (h0 : 0 < k) (hk : k ≤ 30000) (hn : n ≤ 40000) (hg : c < n + k) (ty : TypeId) (base : Nat) (hb : base ≤ w.heap.size) (row : Option Nat) :
    ∃ d w', (Builtin.append_ #[22, 3] ty #[.slice (some ⟨q, 0, none⟩) n c, .int .i64 k]).run Try.prog w = .ok (.slice (some ⟨w.heap.size, 0, none⟩) (n + k) d) w' ∧ OB w' base (.slice (some ⟨w.heap.size, 0, none⟩) (n + k) d) (out ++ List.replicate k 0) ∧ w.grownBy w' row := by
  obtain ⟨i0, hi, hz0, hz1, hz2⟩ := info_parts info8
  have hl := h.1
  have hlo : (out.map (Value.int .u8)).length = n * i0.size := by rw [hz1]; simp [hl]
  have hfo := run_firstCells_some (P := Try.prog) w.drew i0.size n ⟨q, 0, none⟩ n c (out.map (Value.int .u8)) hlo (by intro j u hj; exact bs_news h j u hj)
  have hfit : Builtin.nextslicecap (n + k) c * i0.bytes ≤ 281474976710656 := by rw [hz2]; exact growslice_fits hg (by omega)
  have hr := Lib.run_append_grow_zeros (P := Try.prog) w 22 3 ty 5 i0 (.int .u8 0) .i64 .i64 Try.underlying22 Try.underlying3 hi hz0 (some ⟨q, 0, none⟩) n c (out.map (Value.int .u8)) hfo k h0 (by rw [hz1]; decide) hg (by omega) (by rw [hz2]; omega) hfit
  have hge := grownCap_ge w (n + k) c 5
  have hcm : grownCap w (n + k) c 5 ≤ maxLen := grownCap_le_maxLen w (n + k) c 5 (by unfold maxLen; omega)
  have hol : (out ++ List.replicate k (0:Int)).length = n + k := by simp [hl]
  refine ⟨_, _, hr, ⟨⟨by simp, .inr ⟨w.heap.size, _, _, by rw [hol], hb, heap_alloc_new w.drew _, by rw [hol]; exact hge, hcm, ?_, ?_⟩⟩, ?_⟩, ⟨rfl, rfl, rfl, by simp, fun k hk _ => Below.heap_alloc w.drew _ k hk⟩⟩
  · rw [zero_cells, zero_cells]
    simp only [Array.size_append, List.size_toArray, zcs_len, List.length_map, hl]
    omega
  · rw [zero_cells, zero_cells]
    simp only [Array.toList_append, List.map_append]
    have e : (out.map (Value.int .u8) ++ (List.replicate k 0).map (Value.int .u8)).length = (out ++ List.replicate k (0:Int)).length * 1 := by simp
    rw [← e]
    exact List.take_left
  · intro z hz
    rcases List.mem_append.1 hz with h' | h'
    · exact h.2.2.1 z h'
    · have := (List.mem_replicate.1 h').2
      omega
theorem own_zerosB {w : World} {base q n c : Nat} {out : List Int} (h : OB w base (.slice (some ⟨q, 0, none⟩) n c) out) (k : Nat) (h0 : 0 < k) (hk : k ≤ 30000) (hn : n ≤ 40000) (ty : TypeId) (hb : base ≤ w.heap.size) :
    ∃ q' d w', (Builtin.append_ #[22, 3] ty #[.slice (some ⟨q, 0, none⟩) n c, .int .i64 k]).run Try.prog w = .ok (.slice (some ⟨q', 0, none⟩) (n + k) d) w' ∧ OB w' base (.slice (some ⟨q', 0, none⟩) (n + k) d) (out ++ List.replicate k 0) ∧ w.grownBy w' (some q) := by
  by_cases hg : c < n + k
  · obtain ⟨d, w', h1, h2, h3⟩ := grow_zerosB h.bs k h0 hk hn hg ty base hb (some q)
    exact ⟨_, d, w', h1, h2, h3⟩
  · obtain ⟨i0, hi, hz0, hz1, hz2⟩ := info_parts info8
    have hl := h.bs.1
    have hrg := h.2
    obtain ⟨hl', ⟨h0', _⟩ | ⟨g, cap, cur, hv, hbg, hgg, hnc, hcm, hcs, htake⟩⟩ := h.1
    · simp at h0'
    · simp at hv
      obtain ⟨rfl, e2, rfl⟩ := hv
      have hcs' : cur.size = c := by simpa using hcs
      have hr := run_append_room_zerosB (P := Try.prog) w 22 3 ty 5 i0 .i64 Try.underlying22 Try.underlying3 hi hz0 hz1 hz2 q n c cur hgg k h0 hk (by omega) (by omega)
      refine ⟨_, _, _, hr, ⟨⟨by simp [hl], .inr ⟨q, c, _, by simp [hl], hbg, setRow_heap w q cur _ _ _ hgg, by simp [hl]; omega, hcm, ?_, ?_⟩⟩, ?_⟩, ⟨rfl, rfl, rfl, by simp, fun k _ hk => setRow_other w q k _ (fun e => hk (by simp [e]))⟩⟩
      · simp only [List.size_toArray, List.length_append, List.length_take, List.length_drop, Array.length_toList, zcs_len]
        omega
      · have ht' : cur.toList.take n = out.map (Value.int .u8) := by rw [← hl]; simpa using htake
        rw [ht', List.map_append]
        have e : (out.map (Value.int .u8) ++ zcs k).length = (out ++ List.replicate k (0:Int)).length * 1 := by simp [zcs_len]
        rw [← e]
        exact List.take_left
      · intro z hz
        rcases List.mem_append.1 hz with h' | h'
        · exact hrg z h'
        · have := (List.mem_replicate.1 h').2
          omega
structure M6 (W : World) (base : Nat) (v1 v3 v5 v6 v7 : Value) (a2 : Option Addr) (bn : Nat) (f : Nat → Option Addr × Nat × Nat) (T : List Int) (X : Nat → List Int) (D R : List Int) (I : List ByteArray) (E : List Ex) : Prop where
  t : OI W base v1 T
  b : Rr W base a2 bn f X
  d : OB W base v3 D
  r : OI W base v5 R
  i : OG 9 1 clT W base v6 I
  e : OG 58 3 clX W base v7 E
  tr : ∀ k, v1.ownBlock = some k → v5.ownBlock ≠ some k
  tb : ∀ k, v1.ownBlock = some k → ¬ Sr f bn k
  rb : ∀ k, v5.ownBlock = some k → ¬ Sr f bn k
theorem M6.below {W W' : World} {base : Nat} {v1 v3 v5 v6 v7 : Value} {a2 : Option Addr} {bn : Nat} {f : Nat → Option Addr × Nat × Nat} {T : List Int} {X : Nat → List Int} {D R : List Int} {I : List ByteArray} {E : List Ex} (h : M6 W base v1 v3 v5 v6 v7 a2 bn f T X D R I E) (hb : Below W.heap.size W W') : M6 W' base v1 v3 v5 v6 v7 a2 bn f T X D R I E :=
  ⟨h.t.below hb, h.b.kept (S := fun _ => False) (turn_below hb) (fun _ _ _ _ s => s) (fun _ _ _ _ _ s => s), h.d.below hb, h.r.below hb, h.i.below hb, h.e.below hb, h.tr, h.tb, h.rb⟩
theorem M6.lt {W : World} {base : Nat} {v1 v3 v5 v6 v7 : Value} {a2 : Option Addr} {bn : Nat} {f : Nat → Option Addr × Nat × Nat} {T : List Int} {X : Nat → List Int} {D R : List Int} {I : List ByteArray} {E : List Ex} (h : M6 W base v1 v3 v5 v6 v7 a2 bn f T X D R I E) : (∀ j, v1.ownBlock = some j → base ≤ j ∧ j < W.heap.size) ∧ (∀ j, Sr f bn j → base ≤ j ∧ j < W.heap.size) ∧ (∀ j, v3.ownBlock = some j → base ≤ j ∧ j < W.heap.size) ∧ (∀ j, v5.ownBlock = some j → base ≤ j ∧ j < W.heap.size) ∧ (∀ j, v6.ownBlock = some j → base ≤ j ∧ j < W.heap.size) ∧ (∀ j, v7.ownBlock = some j → base ≤ j ∧ j < W.heap.size) :=
  ⟨h.t.lt, fun j hj => by obtain ⟨i, hi, e⟩ := hj; exact (h.b.rows i hi).lt j e, h.d.lt, h.r.lt, h.i.lt, h.e.lt⟩
end Go.Proofs.Ytngdgogjlpjjpad
