import Derived.Lib.AppendStr
import Derived.Lib.AppendZerosOnto
import Derived.Test.YtngdgogjlpjjpacP12
import Derived.Test.YtngdgogjlpjjpacP18
import Derived.Test.YtngdgogjlpjjpacP26
import Derived.Test.YtngdgogjlpjjpacP38
namespace Go.Proofs.Ytngdgogjlpjjpac
open Go.RowKit
set_option linter.unusedVariables false
set_option linter.unusedSimpArgs false
set_option maxRecDepth 100000
set_option maxHeartbeats 2000000 in
theorem sp6_2 (zs : List Int) (k : Nat) (K V : Int) (E1 : Hid (zs.getD k 0 = K)) (E2 : Hid (zs.getD (k + 1) 0 = V)) (z0 : 0 ≤ K) (z1 : K ≤ 255) (y0 : 0 ≤ V) (y1 : V ≤ 255) (P : PMod) (DP : DnR P) (c0 : K % 12 = 6) (c1 : V % 5 = 2) : SpFn zs k P { P with rz := P.rz ++ [(P.dz.length : Int) - 4] } (k + 2) := by
  intro w W r a n c M D o ds
  have R0 := mr_spoil D o ds
  have hs0 := D.sz
  have hrl : P.rz.length ≤ 1 := by rcases DP.r with e | e <;> rw [e] <;> simp
  have hdl := DP.d.1
  clear D o ds
  go_enter Try.func122, Try.ntmps122
  go_wp2_with fail
  refine (R0.next K E1).mono ?_
  rintro e w1 ⟨rfl, R1⟩
  clear R0
  go_wp2_with fail
  refine (R1.next V E2).mono ?_
  rintro e w2 ⟨rfl, R2⟩
  clear R1 E1 E2
  obtain ⟨p0, q0⟩ := R2.two 5 (.slice M.a5 P.rz.length M.c5) rfl
  obtain ⟨p1, q1⟩ := (R2.below (al_below w2 (.cells #[.int .i64 2, .int .i64 0, .int .i64 ((P.dz.length : Int) - 4), .int .i64 ((P.dz.length : Int)), .int .i64 (-4)] 3))).two 5 (.slice M.a5 P.rz.length M.c5) rfl
  obtain ⟨p2, q2⟩ := ((R2.below (al_below w2 (.cells #[.int .i64 2, .int .i64 0, .int .i64 ((P.dz.length : Int) - 4), .int .i64 ((P.dz.length : Int)), .int .i64 (-4)] 3))).below (al_below (w2.alloc (.cells #[.int .i64 2, .int .i64 0, .int .i64 ((P.dz.length : Int) - 4), .int .i64 ((P.dz.length : Int)), .int .i64 (-4)] 3)) (.cells #[.int .i64 ((P.dz.length : Int) - 4)] 3))).two 5 (.slice M.a5 P.rz.length M.c5) rfl
  have HM0 := hide ((R2.drew.below (al_below w2.drew (.cells #[.int .i64 2, .int .i64 0, .int .i64 ((P.dz.length : Int) - 4), .int .i64 ((P.dz.length : Int)), .int .i64 (-4)] 3))).below (al_below (w2.drew.alloc (.cells #[.int .i64 2, .int .i64 0, .int .i64 ((P.dz.length : Int) - 4), .int .i64 ((P.dz.length : Int)), .int .i64 (-4)] 3)) (.cells #[.int .i64 ((P.dz.length : Int) - 4)] 3)))
  have HM1 := hide ((R2.below (al_below w2 (.cells #[.int .i64 2, .int .i64 0, .int .i64 ((P.dz.length : Int) - 4), .int .i64 ((P.dz.length : Int)), .int .i64 (-4)] 3))).drew.below (al_below (w2.alloc (.cells #[.int .i64 2, .int .i64 0, .int .i64 ((P.dz.length : Int) - 4), .int .i64 ((P.dz.length : Int)), .int .i64 (-4)] 3)).drew (.cells #[.int .i64 ((P.dz.length : Int) - 4)] 3)))
  have HM2 := hide ((R2.below (al_below w2 (.cells #[.int .i64 2, .int .i64 0, .int .i64 ((P.dz.length : Int) - 4), .int .i64 ((P.dz.length : Int)), .int .i64 (-4)] 3))).below (al_below (w2.alloc (.cells #[.int .i64 2, .int .i64 0, .int .i64 ((P.dz.length : Int) - 4), .int .i64 ((P.dz.length : Int)), .int .i64 (-4)] 3)) (.cells #[.int .i64 ((P.dz.length : Int) - 4)] 3))).drew
  have HM3 := hide ((R2.below (al_below w2 (.cells #[.int .i64 2, .int .i64 0, .int .i64 ((P.dz.length : Int) - 4), .int .i64 ((P.dz.length : Int)), .int .i64 (-4)] 3))).below (al_below (w2.alloc (.cells #[.int .i64 2, .int .i64 0, .int .i64 ((P.dz.length : Int) - 4), .int .i64 ((P.dz.length : Int)), .int .i64 (-4)] 3)) (.cells #[.int .i64 ((P.dz.length : Int) - 4)] 3)))
  have HO0 := hide HM0.out.m.o.r
  have hS0 := HM0.out.m.d.sz
  have HO1 := hide HM1.out.m.o.r
  have hS1 := HM1.out.m.d.sz
  have HO2 := hide HM2.out.m.o.r
  have hS2 := HM2.out.m.d.sz
  have HO3 := hide HM3.out.m.o.r
  have hS3 := HM3.out.m.d.sz
  have HN0 := hide (cells_at (w2.drew.alloc (.cells #[.int .i64 2, .int .i64 0, .int .i64 ((P.dz.length : Int) - 4), .int .i64 ((P.dz.length : Int)), .int .i64 (-4)] 3)) (w2.heap.size + 1) _ 3 (clI ((P.dz.length : Int) - 4)) rfl (by simp [drw_sz]))
  have HN1 := hide (cells_at (w2.alloc (.cells #[.int .i64 2, .int .i64 0, .int .i64 ((P.dz.length : Int) - 4), .int .i64 ((P.dz.length : Int)), .int .i64 (-4)] 3)).drew (w2.heap.size + 1) _ 3 (clI ((P.dz.length : Int) - 4)) rfl (by simp [drw_sz]))
  have HN2 := hide (cells_at (w2.alloc (.cells #[.int .i64 2, .int .i64 0, .int .i64 ((P.dz.length : Int) - 4), .int .i64 ((P.dz.length : Int)), .int .i64 (-4)] 3)) (w2.heap.size + 1) _ 3 (clI ((P.dz.length : Int) - 4)) rfl (by simp [drw_sz]))
  have HN3 := hide (cells_at (w2.alloc (.cells #[.int .i64 2, .int .i64 0, .int .i64 ((P.dz.length : Int) - 4), .int .i64 ((P.dz.length : Int)), .int .i64 (-4)] 3)) (w2.heap.size + 1) _ 3 (clI ((P.dz.length : Int) - 4)) rfl (by simp [drw_sz]))
  have ct : V.tmod 5 = 2 := by rw [Int.tmod_eq_emod_of_nonneg y0]; exact c1
  have ew : IntKind.i64.wrap ((P.dz.length : Int) - 4) = (P.dz.length : Int) - 4 := wrap_small _ (by omega) (by omega)
  obtain ⟨pd, qd⟩ := R2.two 3 (.slice M.a3 P.dz.length M.c3) rfl
  obtain ⟨iI, hiI, hz0iI, hz1iI, hz2iI⟩ := info_parts infoI
  have HR2 := hide R2
  clear R2
  go_wp2_with fail
  go_region_law (first
    | (refine step_append_lies _ rfl _ _ 46 rfl w.heap.size 3 iI (.int .i64 0) 1 8 Try.underlying46 hiI hz0iI hz1iI hz2iI rfl (by decide) (.slice M.a5 P.rz.length M.c5) P.rz.length (P.rz.flatMap clI) rfl (by first | exact HO0.out | exact HO1.out | exact HO2.out | exact HO3.out) ⟨w2.heap.size + 1, 0, none⟩ 1 1 (clI ((P.dz.length : Int) - 4)) rfl rfl (by first | exact HN0.out | exact HN1.out | exact HN2.out | exact HN3.out) (by intro u hu; simp [clI, clT, clX] at hu; first | (subst hu; rfl) | (rcases hu with rfl | rfl | rfl <;> rfl)) (by decide) (by unfold maxLen; omega) (by omega) (by first | exact hS0 | exact hS1 | exact hS2 | exact hS3) _ rfl ?_; intro g4 c4 w5 hown hgr hat hlt4; obtain ⟨p9, q9⟩ := (show _ ∧ _ from (by first | exact HM0.out.cell4 HO0.out hgr (by decide) 5 (u := .slice M.a5 P.rz.length M.c5) rfl | exact HM1.out.cell4 HO1.out hgr (by decide) 5 (u := .slice M.a5 P.rz.length M.c5) rfl | exact HM2.out.cell4 HO2.out hgr (by decide) 5 (u := .slice M.a5 P.rz.length M.c5) rfl | exact HM3.out.cell4 HO3.out hgr (by decide) 5 (u := .slice M.a5 P.rz.length M.c5) rfl))))
  all_goals
    have HF := hide (show MR w (w5.setCell ⟨W.heap.size, 5, none⟩ (.slice (some ⟨g4, 0, none⟩) (P.rz.length + 1) c4)) r a n c zs (k + 1 + 1) W.heap.size (W.heap.size + 1) _ _ from (by first | exact MR.reloc (x := (P.dz.length : Int) - 4) HM0.out hown hgr hat | exact MR.reloc (x := (P.dz.length : Int) - 4) HM1.out hown hgr hat | exact MR.reloc (x := (P.dz.length : Int) - 4) HM2.out hown hgr hat | exact MR.reloc (x := (P.dz.length : Int) - 4) HM3.out hown hgr hat))
    clear HM0 HO0 HN0 hS0 HM1 HO1 HN1 hS1 HM2 HO2 HN2 hS2 HM3 HO3 HN3 hS3 hown hgr hat hlt4 p9 q9 p0 q0 p1 q1 p2 q2 HR2
    generalize w5.setCell ⟨W.heap.size, 5, none⟩ (.slice (some ⟨g4, 0, none⟩) (P.rz.length + 1) c4) = W5 at *
    obtain ⟨b0, b1, b2, b3, b4, b5, b6, b7⟩ := HF.out.m.box.eight'
    obtain ⟨f0, f1, f2, f3, f4, f5, f6, f7⟩ := HF.out.m.box.froz
    obtain ⟨r0, r1, r2, r3, r4, r5, r6, r7⟩ := z8_cells HF.out.res
    obtain ⟨s0, s1, s2, s3, s4, s5, s6, s7⟩ := HF.out.res.froz
    go_wp2
    refine spl_end HF.out.res rfl _ _ _ _ _ _ _ _ _ _ rfl ?_
    exact spl_fin HF.out _ _ _ _ _ _ _ _ (by simp [modV])
def zcs (k : Nat) : List Value := (List.replicate k (0 : Int)).map (Value.int .u8)
theorem zcs_len (k : Nat) : (zcs k).length = k := by simp [zcs]
theorem zcs_one (k : Nat) : ∀ u ∈ zcs k, u.oneCell' = true := ones8 _
theorem zero_cells (k : Nat) : Builtin.zeroCells (Value.int .u8 0).cells k = (zcs k).toArray := by
  have e : (Value.int .u8 0).cells = #[.int .u8 0] := rfl
  rw [e]
  apply Array.ext'
  apply List.ext_getElem
  · simp [Builtin.zeroCells, zcs]
  · intro i h1 h2
    simp [Builtin.zeroCells, zcs, Nat.mod_one]
section
variable {P : Program} (w : World)
theorem run_append_room_zeros (t tn ty e : TypeId) (i : TypeInfo) (kn : IntKind) (ht : P.underlying t = some (.slice e)) (htn : P.underlying tn = some (.int kn)) (hi : P.info? e = some i) (hz : i.zero = some (.int .u8 0)) (hs1 : i.size = 1) (hby : i.bytes = 1)
    (g sLen sCap : Nat) (cur : Array Value) (hg : w.heap[g]? = some (.cells cur e (0, 0))) (k : Nat) (h0 : 0 < k) (hk : k ≤ 1000) (hroom : sLen + k ≤ sCap) (hfit : sLen + k ≤ cur.size) :
    (Builtin.append_ #[t, tn] ty #[.slice (some ⟨g, 0, none⟩) sLen sCap, .int .i64 k]).run P w =
      .ok (.slice (some ⟨g, 0, none⟩) (sLen + k) sCap) (w.setRow g (cur.toList.take sLen ++ zcs k ++ cur.toList.drop (sLen + k)).toArray) := by
  have hst := run_storeCells_at P g sLen e (zcs k) 0 cur w hg (by simpa [zcs_len] using hfit) (zcs_one k)
  simp only [Nat.add_zero, zcs_len] at hst
  have hw : IntKind.i64.wrap (k : Int) = k := by rw [IntKind.wrap_i64]; omega
  have h48i : ¬ (281474976710656 < (k : Int)) := by omega
  have hneg : ¬ ((k : Int) < 0) := by omega
  have hne : k ≠ 0 := by omega
  simp [Builtin.append_, run_underlying ht, run_underlying htn, sizeOf, typeInfo, zeroValue, hi, hz, hs1, hby, asInt, asIntOf, hw, hneg, hne, h48i, hroom, zero_cells, Addr.add_lit, hst]
end
theorem grow_zeros {w : World} {q n c : Nat} {out : List Int} (h : BS w (some ⟨q, 0, none⟩) n c out) (k : Nat) (h0 : 0 < k) (hk : k ≤ 1000) (hn0 : 0 < n) (hn : n ≤ 40000) (hg : c < n + k) (ty : TypeId) (base : Nat) (hb : base ≤ w.heap.size) (row : Option Nat) :
    ∃ d w', (Builtin.append_ #[22, 3] ty #[.slice (some ⟨q, 0, none⟩) n c, .int .i64 k]).run Try.prog w = .ok (.slice (some ⟨w.heap.size, 0, none⟩) (n + k) d) w' ∧ OB w' base (.slice (some ⟨w.heap.size, 0, none⟩) (n + k) d) (out ++ List.replicate k 0) ∧ w.grownBy w' row := by
  obtain ⟨i0, hi, hz0, hz1, hz2⟩ := info_parts info8
  have hl := h.1
  have hlo : (out.map (Value.int .u8)).length = n * i0.size := by rw [hz1]; simp [hl]
  have hfo := run_firstCells_some (P := Try.prog) w.drew i0.size n ⟨q, 0, none⟩ n c (out.map (Value.int .u8)) hlo (by intro j u hj; exact bs_news h j u hj)
  have hfit : Builtin.nextslicecap (n + k) c * i0.bytes ≤ 281474976710656 := by rw [hz2]; exact growslice_fits hg (by omega)
  have hr := Lib.run_append_grow_zeros (P := Try.prog) w 22 3 ty 5 i0 (.int .u8 0) .i64 .i64 Try.underlying22 Try.underlying3 hi hz0 (some ⟨q, 0, none⟩) n c (out.map (Value.int .u8)) hfo k h0 (by rw [hz1]; decide) hg (by omega) (by rw [hz2]; omega) hfit
  have hge := grownCap_ge w (n + k) c 5
  have hcm : grownCap w (n + k) c 5 ≤ maxLen := grownCap_le_maxLen w (n + k) c 5 (by unfold maxLen; omega)
  have hol : (out ++ List.replicate k (0:Int)).length = n + k := by simp [hl]
  refine ⟨_, _, hr, ⟨⟨by simp, .inr ⟨w.heap.size, _, _, by rw [hol], hb, heap_alloc_new w.drew _, by rw [hol]; exact hge, hcm, ?_, ?_⟩⟩, ?_⟩, ⟨rfl, rfl, rfl, by simp, fun k hk _ => Below.heap_alloc w.drew _ k hk⟩⟩
  · rw [zero_cells, zero_cells]
    simp only [Array.size_append, List.size_toArray, zcs_len, List.length_map, hl]
    omega
  · rw [zero_cells, zero_cells]
    simp only [Array.toList_append, List.map_append]
    have e : (out.map (Value.int .u8) ++ (List.replicate k 0).map (Value.int .u8)).length = (out ++ List.replicate k (0:Int)).length * 1 := by simp
    rw [← e]
    exact List.take_left
  · intro z hz
    rcases List.mem_append.1 hz with h' | h'
    · exact h.2.2.1 z h'
    · have := (List.mem_replicate.1 h').2
      omega
theorem own_zeros {w : World} {base q n c : Nat} {out : List Int} (h : OB w base (.slice (some ⟨q, 0, none⟩) n c) out) (k : Nat) (h0 : 0 < k) (hk : k ≤ 1000) (hn0 : 0 < n) (hn : n ≤ 40000) (ty : TypeId) (hb : base ≤ w.heap.size) :
    ∃ q' d w', (Builtin.append_ #[22, 3] ty #[.slice (some ⟨q, 0, none⟩) n c, .int .i64 k]).run Try.prog w = .ok (.slice (some ⟨q', 0, none⟩) (n + k) d) w' ∧ OB w' base (.slice (some ⟨q', 0, none⟩) (n + k) d) (out ++ List.replicate k 0) ∧ w.grownBy w' (some q) := by
  by_cases hg : c < n + k
  · obtain ⟨d, w', h1, h2, h3⟩ := grow_zeros h.bs k h0 hk hn0 hn hg ty base hb (some q)
    exact ⟨_, d, w', h1, h2, h3⟩
  · obtain ⟨i0, hi, hz0, hz1, hz2⟩ := info_parts info8
    have hl := h.bs.1
    have hrg := h.2
    obtain ⟨hl', ⟨h0', _⟩ | ⟨g, cap, cur, hv, hbg, hgg, hnc, hcm, hcs, htake⟩⟩ := h.1
    · simp at h0'
    · simp at hv
      obtain ⟨rfl, e2, rfl⟩ := hv
      have hcs' : cur.size = c := by simpa using hcs
      have hr := run_append_room_zeros (P := Try.prog) w 22 3 ty 5 i0 .i64 Try.underlying22 Try.underlying3 hi hz0 hz1 hz2 q n c cur hgg k h0 hk (by omega) (by omega)
      refine ⟨_, _, _, hr, ⟨⟨by simp [hl], .inr ⟨q, c, _, by simp [hl], hbg, setRow_heap w q cur _ _ _ hgg, by simp [hl]; omega, hcm, ?_, ?_⟩⟩, ?_⟩, ⟨rfl, rfl, rfl, by simp, fun k _ hk => setRow_other w q k _ (fun e => hk (by simp [e]))⟩⟩
      · simp only [List.size_toArray, List.length_append, List.length_take, List.length_drop, Array.length_toList, zcs_len]
        omega
      · have ht' : cur.toList.take n = out.map (Value.int .u8) := by rw [← hl]; simpa using htake
        rw [ht', List.map_append]
        have e : (out.map (Value.int .u8) ++ zcs k).length = (out ++ List.replicate k (0:Int)).length * 1 := by simp [zcs_len]
        rw [← e]
        exact List.take_left
      · intro z hz
        rcases List.mem_append.1 hz with h' | h'
        · exact hrg z h'
        · have := (List.mem_replicate.1 h').2
          omega
theorem put_app (xs : List Int) (v : Int) : ∀ (j : Nat) (ys : List Int), put (xs ++ ys) xs.length v j = xs ++ put ys 0 v j
  | 0, _ => rfl
  | j + 1, ys => by
    show (put (xs ++ ys) xs.length v j).set (xs.length + j) (bt v j) = xs ++ (put ys 0 v j).set (0 + j) (bt v j)
    rw [put_app xs v j ys, List.set_append_right _ _ (by omega)]
    congr 2
    omega
theorem put_zeros {xs : List Int} {n : Nat} (hn : xs.length = n) (v : Int) (s : Nat) (hs : s ≤ 4) : put (xs ++ List.replicate s 0) n v s = xs ++ encN v s := by
  subst hn
  rw [put_app, put_enc v s hs]
theorem putBytes_any (g n cap k s : Nat) (v : Int) (w : World) (hs : s = 1 ∨ s = 2 ∨ s = 4) (h : Room w g (k + s)) (hn : s ≤ n) (hv : -9223372036854775808 ≤ v ∧ v ≤ 9223372036854775807) :
    Calls Try.prog 111 #[.slice (some ⟨g, k, none⟩) n cap, .int .i64 s, .int .i64 v] w fun e w' => e = .returned (.tuple #[]) ∧ Only g w w' ∧ ∀ base n' cap' zs, OB w base (.slice (some ⟨g, 0, none⟩) n' cap') zs → k + s ≤ n' → OB w' base (.slice (some ⟨g, 0, none⟩) n' cap') (put zs k v s) := by
  rcases hs with rfl | rfl | rfl
  · refine (putBytes_1 g n cap k v w h hn hv).mono ?_
    rintro e w' ⟨rfl, rfl⟩
    exact ⟨rfl, only_putD1 _ _ _ _, fun base n' cap' zs ho hk => ob_putD1 ho k v hk⟩
  · refine (putBytes_2 g n cap k v w h hn hv).mono ?_
    rintro e w' ⟨rfl, rfl⟩
    exact ⟨rfl, only_putD2 _ _ _ _, fun base n' cap' zs ho hk => ob_putD2 ho k v hk⟩
  · refine (putBytes_4 g n cap k v w h hn hv).mono ?_
    rintro e w' ⟨rfl, rfl⟩
    exact ⟨rfl, only_putD4 _ _ _ _, fun base n' cap' zs ho hk => ob_putD4 ho k v hk⟩
def KeepT (g : Nat) (W W' : World) : Prop := W.heap.size ≤ W'.heap.size ∧ ∀ k cs t, t ≠ 5 → k ≠ g → Blk W k cs t → Blk W' k cs t
theorem KeepT.refl (g : Nat) (W : World) : KeepT g W W := ⟨Nat.le_refl _, fun _ _ _ _ _ h => h⟩
theorem KeepT.trans {g : Nat} {W W' W'' : World} (h : KeepT g W W') (h' : KeepT g W' W'') : KeepT g W W'' := ⟨Nat.le_trans h.1 h'.1, fun k cs t ht hk hb => h'.2 k cs t ht hk (h.2 k cs t ht hk hb)⟩
theorem ob_apart {W : World} {base q n c : Nat} {out : List Int} {g : Nat} {cs : Array Value} {t : TypeId} (h : OB W base (.slice (some ⟨q, 0, none⟩) n c) out) (hb : Blk W g cs t) (ht : t ≠ 5) : g ≠ q := fun e => by
  subst e
  exact ht (ob_kind h hb)
structure Iw (w0 W : World) (g q n c : Nat) (out : List Int) : Prop where
  box : Blk W g #[.slice (some ⟨q, 0, none⟩) n c] 112
  bs : BS W (some ⟨q, 0, none⟩) n c out
  own : OB W w0.heap.size (.slice (some ⟨q, 0, none⟩) n c) out ∨ c = n
  below : Below w0.heap.size w0 W
  lo : w0.heap.size ≤ g
def IwPost (w0 W : World) (g n : Nat) (out : List Int) (e : Ending) (w' : World) : Prop :=
  e = .returned (.tuple #[]) ∧ ∃ q c, Iw w0 w' g q n c out ∧ OB w' w0.heap.size (.slice (some ⟨q, 0, none⟩) n c) out ∧ KeepT g W w'
theorem iw_of {w0 W : World} {g q n c : Nat} {out : List Int} (hb : Blk W g #[.slice (some ⟨q, 0, none⟩) n c] 112) (ho : OB W w0.heap.size (.slice (some ⟨q, 0, none⟩) n c) out) (h : Below w0.heap.size w0 W) (hl : w0.heap.size ≤ g) : Iw w0 W g q n c out := ⟨hb, ho.bs, .inl ho, h, hl⟩
theorem grown_keep {W W' : World} {base q n c g : Nat} {out : List Int} (hg : W.grownBy W' (some q)) (ho : OB W base (.slice (some ⟨q, 0, none⟩) n c) out) : KeepT g W W' :=
  ⟨hg.size, fun k cs t ht hk hb => grown_blk hg hb (fun e => by injection e with e; exact ob_apart ho hb ht e)⟩
theorem grown_none {W W' : World} {g : Nat} (hg : W.grownBy W' none) : KeepT g W W' :=
  ⟨hg.size, fun k cs t ht hk hb => grown_blk hg hb (by simp)⟩
theorem Iw.zeros {w0 W : World} {g q n c : Nat} {out : List Int} (h : Iw w0 W g q n c out) (k : Nat) (h0 : 0 < k) (hk : k ≤ 4) (hn0 : 0 < n) (hn : n ≤ 40000) :
    ∃ q' d w', (Builtin.append_ #[22, 3] 22 #[.slice (some ⟨q, 0, none⟩) n c, .int .i64 k]).run Try.prog W = .ok (.slice (some ⟨q', 0, none⟩) (n + k) d) w' ∧ OB w' w0.heap.size (.slice (some ⟨q', 0, none⟩) (n + k) d) (out ++ List.replicate k 0) ∧ Blk w' g #[.slice (some ⟨q, 0, none⟩) n c] 112 ∧ KeepT g W w' ∧ Below w0.heap.size w0 w' := by
  have hsz := h.below.size
  rcases h.own with ho | hc
  · obtain ⟨q', d, w', h1, h2, h3⟩ := own_zeros ho k h0 (by omega) hn0 hn 22 hsz
    have hq := (ho.lt q rfl).1
    exact ⟨q', d, w', h1, h2, grown_blk h3 h.box (fun e => by injection e with e; exact ob_apart ho h.box (by decide) e), grown_keep h3 ho, below_grown' h.below h3 hsz hq⟩
  · obtain ⟨d, w', h1, h2, h3⟩ := grow_zeros h.bs k h0 (by omega) hn0 hn (by omega) 22 w0.heap.size hsz none
    exact ⟨_, d, w', h1, h2, grown_blk h3 h.box (by simp), grown_none h3, h.below.grown h3 hsz (fun j hj => by cases hj)⟩
theorem ob_set_far {w : World} {base q n c g i : Nat} {zs : List Int} {u : Value} (h : OB w base (.slice (some ⟨q, 0, none⟩) n c) zs) (hg : g ≠ q) : OB (w.setCell ⟨g, i, none⟩ u) base (.slice (some ⟨q, 0, none⟩) n c) zs := ob_far (g := g) h ⟨g, i, none⟩ u (by intro e; injection e with e; exact hg e.symm)
theorem KeepT.set {g i : Nat} {W W' : World} {u : Value} (h : KeepT g W W') : KeepT g W (W'.setCell ⟨g, i, none⟩ u) := ⟨by rw [size_setCell]; exact h.1, fun k cs t ht hk hb => (h.2 k cs t ht hk hb).other _ _ hk⟩
theorem KeepT.only {g q base n c : Nat} {zs : List Int} {W W' W'' : World} (h : KeepT g W W') (ho : OB W' base (.slice (some ⟨q, 0, none⟩) n c) zs) (hy : Only q W' W'') : KeepT g W W'' := ⟨by rw [hy.1]; exact h.1, fun k cs t ht hk hb => only_blk hy (h.2 k cs t ht hk hb) (ob_apart ho (h.2 k cs t ht hk hb) ht)⟩
theorem below_set' {B g i : Nat} {a w : World} {u : Value} (h : Below B a w) (hg : B ≤ g) : Below B a (w.setCell ⟨g, i, none⟩ u) := only_below h (only_set (only_refl g w) i u) hg
set_option maxHeartbeats 1000000 in
theorem number_any (w0 W : World) (g q n c : Nat) (out : List Int) (v : Int) (s : Nat) (h : Iw w0 W g q n c out) (hs : s = 1 ∨ s = 2 ∨ s = 4) (hv0 : 0 ≤ v) (hv1 : v ≤ 4294967295) (hn0 : 0 < n) (hn : n ≤ 40000) :
    Calls Try.prog 125 #[.pointer (some ⟨g, 0, none⟩), .int .i64 v, .int .i64 s] W (IwPost w0 W g (n + s) (out ++ encN v s)) := by
  have hs4 : s ≤ 4 := by omega
  have hs1 : 0 < s := by omega
  obtain ⟨q', d, w', hr, ho, hb, hk, hB⟩ := h.zeros s hs1 hs4 hn0 hn
  have hgq := ob_apart ho hb (by decide)
  have c0 := h.box.cell 0
  have c1 := hb.cell 0
  have f1 := hb.frozen 0
  have hlen := h.bs.1
  have hlo := h.lo
  have o2 : OB (w'.setCell ⟨g, 0, none⟩ (.slice (some ⟨q', 0, none⟩) (n + s) d)) w0.heap.size (.slice (some ⟨q', 0, none⟩) (n + s) d) (out ++ List.replicate s 0) := ob_set_far ho hgq
  have b2 := hb.set 0 (.slice (some ⟨q', 0, none⟩) (n + s) d)
  have k2 : KeepT g W (w'.setCell ⟨g, 0, none⟩ (.slice (some ⟨q', 0, none⟩) (n + s) d)) := hk.set
  have B2 : Below w0.heap.size w0 (w'.setCell ⟨g, 0, none⟩ (.slice (some ⟨q', 0, none⟩) (n + s) d)) := below_set' hB hlo
  have hd : n + s ≤ d := o2.bs.2.2.2.2
  have c2 := b2.cell 0
  have HR := hide hr
  have HO2 := hide (And.intro o2 (And.intro b2 (And.intro k2 B2)))
  have HS := hide hs
  have hq0 : w0.heap.size ≤ q' := (ho.lt q' rfl).1
  clear o2 b2 k2 B2 ho hb hk hB hr hs h
  simp at c0 c1 c2
  go_enter Try.func125, Try.ntmps125
  go_wp2_with (at_builtin; refine Lib.wpList_append_run _ rfl _ _ _ _ rfl _ _ rfl rfl _ _ HR.out ?_)
  refine (putBytes_any q' s (d - n) n s v _ HS.out (ob_room HO2.out.1) (Nat.le_refl _) (by omega)).mono ?_
  rintro e w3 ⟨rfl, hy, hz⟩
  have o3 := hz _ _ _ _ HO2.out.1 (Nat.le_refl _)
  rw [put_zeros hlen v s hs4] at o3
  have b3 := only_blk hy HO2.out.2.1 hgq
  have k3 := HO2.out.2.2.1.only HO2.out.1 hy
  have B3 := only_below HO2.out.2.2.2 hy hq0
  have HF := hide (And.intro o3 (And.intro b3 (And.intro k3 B3)))
  clear o3 b3 k3 B3 hy hz HO2 HR
  go_wp2
  go_end0
  refine ⟨rfl, q', d, iw_of ?_ HF.out.1 HF.out.2.2.2 hlo, HF.out.1, HF.out.2.2.1⟩
  simpa using HF.out.2.1
theorem str_cells (s : ByteArray) : Lib.strCells s = (strB s).map (Value.int .u8) := by simp [Lib.strCells, strB]
theorem own_text {w0 W : World} {g q n c : Nat} {out : List Int} {s : ByteArray} {v' : Value} {w' : World} (hb : Blk W g #[.slice (some ⟨q, 0, none⟩) n c] 112) (ho : OB W w0.heap.size (.slice (some ⟨q, 0, none⟩) n c) out) (hB : Below w0.heap.size w0 W) (hl : w0.heap.size ≤ g) (hn0 : 0 < n)
    (hown : w'.ownsRow w0.heap.size 5 1 v' (n + s.size) (out.map (Value.int .u8) ++ Lib.strCells s)) (hg : W.grownBy w' (some q)) :
    ∃ q' d, v' = .slice (some ⟨q', 0, none⟩) (n + s.size) d ∧ Iw w0 (w'.setCell ⟨g, 0, none⟩ (.slice (some ⟨q', 0, none⟩) (n + s.size) d)) g q' (n + s.size) d (out ++ strB s) ∧ OB (w'.setCell ⟨g, 0, none⟩ (.slice (some ⟨q', 0, none⟩) (n + s.size) d)) w0.heap.size (.slice (some ⟨q', 0, none⟩) (n + s.size) d) (out ++ strB s) ∧ KeepT g W (w'.setCell ⟨g, 0, none⟩ (.slice (some ⟨q', 0, none⟩) (n + s.size) d)) ∧ w'.cell? ⟨g, 0, none⟩ = some (.slice (some ⟨q, 0, none⟩) n c) ∧ w'.frozen? ⟨g, 0, none⟩ = false := by
  have hln := ho.bs.1
  have o1 : OB w' w0.heap.size v' (out ++ strB s) := ob_join ho.2 (strB_range s) (by rw [hln, strB_len, ← str_cells]; exact hown)
  obtain ⟨q', d, rfl, _⟩ := World.ownsRow.form hown (by omega)
  have hb1 := grown_blk hg hb (fun e => by injection e with e; exact ob_apart ho hb (by decide) e)
  have hgq := ob_apart o1 hb1 (by decide)
  have hq := (ho.lt q rfl).1
  have o2 := ob_set_far (g := g) (i := 0) (u := .slice (some ⟨q', 0, none⟩) (n + s.size) d) o1 hgq
  have b2 : Blk (w'.setCell ⟨g, 0, none⟩ (.slice (some ⟨q', 0, none⟩) (n + s.size) d)) g #[.slice (some ⟨q', 0, none⟩) (n + s.size) d] 112 := by simpa using hb1.set 0 (.slice (some ⟨q', 0, none⟩) (n + s.size) d)
  have B2 := below_set' (i := 0) (u := .slice (some ⟨q', 0, none⟩) (n + s.size) d) (below_grown' hB hg hB.size hq) hl
  exact ⟨q', d, rfl, iw_of b2 o2 B2 hl, o2, (grown_keep hg ho).set, by simpa using hb1.cell 0, hb1.frozen 0⟩
set_option maxHeartbeats 1000000 in
theorem text_any (w0 W : World) (g q n c : Nat) (out : List Int) (s : ByteArray) (h : Iw w0 W g q n c out) (hs : s.size ≤ 1000) (hn0 : 0 < n) (hn : n ≤ 39000) :
    Calls Try.prog 123 #[.pointer (some ⟨g, 0, none⟩), .string s] W (IwPost w0 W g (n + (1 + s.size)) (out ++ encT s)) := by
  obtain ⟨i0, hi, hz0, hz1, hz2⟩ := info_parts info8
  have HN := hide (number_any w0 W g q n c out s.size 1 h (Or.inl rfl) (by omega) (by omega) hn0 (by omega))
  have hlo := h.lo
  clear h
  go_enter Try.func123, Try.ntmps123
  go_wp2_with fail
  refine HN.out.mono ?_
  rintro e w1 ⟨rfl, q1, c1, I1, O1, K1⟩
  have x0 := I1.box.cell 0
  simp at x0
  have O1' := O1.1
  rw [O1.bs.1] at O1'
  have HO := hide O1'
  have HB := hide (And.intro I1.box (And.intro O1 (And.intro I1.below K1)))
  clear I1 O1 K1 HN O1'
  go_wp2_with (at_builtin; refine Lib.wpList_append_own_string _ rfl _ _ 22 9 rfl w0.heap.size 5 i0 Try.underlying22 Try.underlying9 hi hz0 hz1 hz2 (.slice (some ⟨q1, 0, none⟩) (n + 1) c1) (n + 1) ((out ++ encN s.size 1).map (Value.int .u8)) rfl HO.out s rfl (by unfold maxLen; omega) (by omega) HB.out.2.2.1.size ?_; intro v' w2 hown hgr _; obtain ⟨q', d, rfl, I2, O2, K2, y0, y1⟩ := own_text HB.out.1 HB.out.2.1 HB.out.2.2.1 hlo (by omega) hown hgr; have HF := hide (And.intro I2 (And.intro O2 K2)); clear I2 O2 K2 hown hgr)
  go_end0
  rw [List.append_assoc, ← Nat.add_assoc] at *
  exact ⟨rfl, q', d, HF.out.1, HF.out.2.1, HB.out.2.2.2.trans HF.out.2.2⟩
set_option maxHeartbeats 1000000 in
theorem words_any (w0 W : World) (g q n c : Nat) (out : List Int) (a : Option Addr) (m cap : Nat) (zs : List Int) (h : Iw w0 W g q n c out) (hI : IS w0 a m cap zs) (hr : ∀ z ∈ zs, 0 ≤ z ∧ z ≤ 4294967295) (hm : m ≤ 1000) (hn0 : 0 < n) (hn : n ≤ 30000) :
    Calls Try.prog 124 #[.pointer (some ⟨g, 0, none⟩), .slice a m cap] W (IwPost w0 W g (n + (2 + m * 4)) (out ++ encL zs)) := by
  have hl := hI.1
  have HN := hide (number_any w0 W g q n c out m 2 h (Or.inr (Or.inl rfl)) (by omega) (by omega) hn0 (by omega))
  have HE := hide (show out ++ encL zs = out ++ encN m 2 ++ encW 4 zs m by unfold encL; rw [hl, List.append_assoc])
  have hlo := h.lo
  clear h
  go_enter Try.func124, Try.ntmps124
  go_wp2_with fail
  refine HN.out.mono ?_
  rintro e w1 ⟨rfl, q1, c1, I1, O1, K1⟩
  go_wp2_with fail
  go_loopw [12] (fun i wr => ∃ (k q c : Nat), k ≤ m ∧ i = .int .i64 k ∧ Iw w0 wr g q (n + 2 + k * 4) c (out ++ encN m 2 ++ encW 4 zs k) ∧ OB wr w0.heap.size (.slice (some ⟨q, 0, none⟩) (n + 2 + k * 4) c) (out ++ encN m 2 ++ encW 4 zs k) ∧ KeepT g W wr) (fun i _ => m - (intOf i).toNat)
  case atStart => exact ⟨0, q1, c1, Nat.zero_le _, rfl, by simpa [encW] using I1, by simpa [encW] using O1, K1⟩
  case round =>
    obtain ⟨k, q2, c2, hk, rfl, I2, O2, K2⟩ := hrel
    clear I1 O1 K1 HN
    by_cases hlt : k < m
    · have hlt' : (k : Int) < (m : Int) := by omega
      obtain ⟨b, off, rfl⟩ := hI.addr (by omega)
      have hc := (hI.below I2.below).at k hlt
      have hz : 0 ≤ zs.getD k 0 ∧ zs.getD k 0 ≤ 4294967295 := hr _ (by simp [List.getD_eq_getElem?_getD, show k < zs.length by omega])
      have HS := hide (show out ++ encN m 2 ++ encW 4 zs (k + 1) = out ++ encN m 2 ++ encW 4 zs k ++ encN (zs.getD k 0) 4 by rw [encW_succ 4 zs k (by omega), List.append_assoc (out ++ encN m 2)])
      generalize out ++ encN m 2 ++ encW 4 zs k = O at *
      generalize zs.getD k 0 = z at *
      have HN := hide (number_any w0 wr g q2 (n + 2 + k * 4) c2 O z 4 I2 (Or.inr (Or.inr rfl)) hz.1 hz.2 (by omega) (by omega))
      clear I2 O2
      go_wp2_with fail
      refine HN.out.mono ?_
      rintro e w3 ⟨rfl, q3, c3, I3, O3, K3⟩
      rw [← HS.out] at I3 O3
      have e4 : n + 2 + k * 4 + 4 = n + 2 + (k + 1) * 4 := by omega
      rw [e4] at I3 O3
      have HF := hide (And.intro I3 (And.intro O3 (K2.trans K3)))
      clear I3 O3 K3 K2 HN e4
      go_wp2
      go_roundw
      case rel => exact ⟨k + 1, q3, c3, by omega, by go_num, HF.out.1, HF.out.2.1, HF.out.2.2⟩
      case measure => simp [intOf]; omega
    · obtain rfl : k = m := by omega
      have HF := hide (And.intro I2 (And.intro O2 K2))
      clear I2 O2 K2
      go_wp2
      go_end0
      rw [HE.out, ← Nat.add_assoc]
      exact ⟨rfl, q2, c2, HF.out.1, HF.out.2.1, HF.out.2.2⟩
end Go.Proofs.Ytngdgogjlpjjpac
