import Derived.Test.YtngdgogjlpjjpadP06
import Derived.Test.YtngdgogjlpjjpadP14
import Derived.Test.YtngdgogjlpjjpadP23
import Derived.Test.YtngdgogjlpjjpadP31
import Derived.Test.YtngdgogjlpjjpadP34
namespace Go.Proofs.Ytngdgogjlpjjpad
open Go.RowKit
set_option linter.unusedVariables false
set_option linter.unusedSimpArgs false
set_option maxRecDepth 100000
set_option maxHeartbeats 2000000 in
theorem sp6_1 (zs : List Int) (k : Nat) (K V : Int) (E1 : Hid (zs.getD k 0 = K)) (E2 : Hid (zs.getD (k + 1) 0 = V)) (z0 : 0 ≤ K) (z1 : K ≤ 255) (y0 : 0 ≤ V) (y1 : V ≤ 255) (P : PMod) (DP : DnR P) (c0 : K % 12 = 6) (c1 : V % 5 = 1) : SpFn zs k P { P with rz := P.rz ++ [0] } (k + 2) := by
  intro w W r a n c M D o ds
  have R0 := mr_spoil D o ds
  have hs0 := D.sz
  have hrl : P.rz.length ≤ 1 := by rcases DP.r with e | e <;> rw [e] <;> simp
  have hdl := DP.d.1
  clear D o ds
  go_enter Try.func60, Try.ntmps60
  go_wp2_with fail
  refine (R0.next K E1).mono ?_
  rintro e w1 ⟨rfl, R1⟩
  clear R0
  go_wp2_with fail
  refine (R1.next V E2).mono ?_
  rintro e w2 ⟨rfl, R2⟩
  clear R1 E1 E2
  obtain ⟨p0, q0⟩ := R2.two 5 (.slice M.a5 P.rz.length M.c5) rfl
  obtain ⟨p1, q1⟩ := (R2.below (al_below w2 (.cells #[.int .i64 2, .int .i64 0, .int .i64 ((P.dz.length : Int) - 4), .int .i64 ((P.dz.length : Int)), .int .i64 (-4)] 3))).two 5 (.slice M.a5 P.rz.length M.c5) rfl
  obtain ⟨p2, q2⟩ := ((R2.below (al_below w2 (.cells #[.int .i64 2, .int .i64 0, .int .i64 ((P.dz.length : Int) - 4), .int .i64 ((P.dz.length : Int)), .int .i64 (-4)] 3))).below (al_below (w2.alloc (.cells #[.int .i64 2, .int .i64 0, .int .i64 ((P.dz.length : Int) - 4), .int .i64 ((P.dz.length : Int)), .int .i64 (-4)] 3)) (.cells #[.int .i64 0] 3))).two 5 (.slice M.a5 P.rz.length M.c5) rfl
  have HM0 := hide ((R2.drew.below (al_below w2.drew (.cells #[.int .i64 2, .int .i64 0, .int .i64 ((P.dz.length : Int) - 4), .int .i64 ((P.dz.length : Int)), .int .i64 (-4)] 3))).below (al_below (w2.drew.alloc (.cells #[.int .i64 2, .int .i64 0, .int .i64 ((P.dz.length : Int) - 4), .int .i64 ((P.dz.length : Int)), .int .i64 (-4)] 3)) (.cells #[.int .i64 0] 3)))
  have HM1 := hide ((R2.below (al_below w2 (.cells #[.int .i64 2, .int .i64 0, .int .i64 ((P.dz.length : Int) - 4), .int .i64 ((P.dz.length : Int)), .int .i64 (-4)] 3))).drew.below (al_below (w2.alloc (.cells #[.int .i64 2, .int .i64 0, .int .i64 ((P.dz.length : Int) - 4), .int .i64 ((P.dz.length : Int)), .int .i64 (-4)] 3)).drew (.cells #[.int .i64 0] 3)))
  have HM2 := hide ((R2.below (al_below w2 (.cells #[.int .i64 2, .int .i64 0, .int .i64 ((P.dz.length : Int) - 4), .int .i64 ((P.dz.length : Int)), .int .i64 (-4)] 3))).below (al_below (w2.alloc (.cells #[.int .i64 2, .int .i64 0, .int .i64 ((P.dz.length : Int) - 4), .int .i64 ((P.dz.length : Int)), .int .i64 (-4)] 3)) (.cells #[.int .i64 0] 3))).drew
  have HM3 := hide ((R2.below (al_below w2 (.cells #[.int .i64 2, .int .i64 0, .int .i64 ((P.dz.length : Int) - 4), .int .i64 ((P.dz.length : Int)), .int .i64 (-4)] 3))).below (al_below (w2.alloc (.cells #[.int .i64 2, .int .i64 0, .int .i64 ((P.dz.length : Int) - 4), .int .i64 ((P.dz.length : Int)), .int .i64 (-4)] 3)) (.cells #[.int .i64 0] 3)))
  have HO0 := hide HM0.out.m.o.r
  have hS0 := HM0.out.m.d.sz
  have HO1 := hide HM1.out.m.o.r
  have hS1 := HM1.out.m.d.sz
  have HO2 := hide HM2.out.m.o.r
  have hS2 := HM2.out.m.d.sz
  have HO3 := hide HM3.out.m.o.r
  have hS3 := HM3.out.m.d.sz
  have HN0 := hide (cells_at (w2.drew.alloc (.cells #[.int .i64 2, .int .i64 0, .int .i64 ((P.dz.length : Int) - 4), .int .i64 ((P.dz.length : Int)), .int .i64 (-4)] 3)) (w2.heap.size + 1) _ 3 (clI (0)) rfl (by simp [drw_sz]))
  have HN1 := hide (cells_at (w2.alloc (.cells #[.int .i64 2, .int .i64 0, .int .i64 ((P.dz.length : Int) - 4), .int .i64 ((P.dz.length : Int)), .int .i64 (-4)] 3)).drew (w2.heap.size + 1) _ 3 (clI (0)) rfl (by simp [drw_sz]))
  have HN2 := hide (cells_at (w2.alloc (.cells #[.int .i64 2, .int .i64 0, .int .i64 ((P.dz.length : Int) - 4), .int .i64 ((P.dz.length : Int)), .int .i64 (-4)] 3)) (w2.heap.size + 1) _ 3 (clI (0)) rfl (by simp [drw_sz]))
  have HN3 := hide (cells_at (w2.alloc (.cells #[.int .i64 2, .int .i64 0, .int .i64 ((P.dz.length : Int) - 4), .int .i64 ((P.dz.length : Int)), .int .i64 (-4)] 3)) (w2.heap.size + 1) _ 3 (clI (0)) rfl (by simp [drw_sz]))
  have ct : V.tmod 5 = 1 := by rw [Int.tmod_eq_emod_of_nonneg y0]; exact c1
  have ew : IntKind.i64.wrap ((P.dz.length : Int) - 4) = (P.dz.length : Int) - 4 := wrap_small _ (by omega) (by omega)
  obtain ⟨pd, qd⟩ := R2.two 3 (.slice M.a3 P.dz.length M.c3) rfl
  obtain ⟨iI, hiI, hz0iI, hz1iI, hz2iI⟩ := info_parts infoI
  have HR2 := hide R2
  clear R2
  go_wp2_with fail
  go_region_law (first
    | (refine step_append_lies _ rfl _ _ 24 rfl w.heap.size 3 iI (.int .i64 0) 1 8 Try.underlying24 hiI hz0iI hz1iI hz2iI rfl (by decide) (.slice M.a5 P.rz.length M.c5) P.rz.length (P.rz.flatMap clI) rfl (by first | exact HO0.out | exact HO1.out | exact HO2.out | exact HO3.out) ⟨w2.heap.size + 1, 0, none⟩ 1 1 (clI (0)) rfl rfl (by first | exact HN0.out | exact HN1.out | exact HN2.out | exact HN3.out) (by intro u hu; simp [clI, clT, clX] at hu; first | (subst hu; rfl) | (rcases hu with rfl | rfl | rfl <;> rfl)) (by decide) (by unfold maxLen; omega) (by omega) (by first | exact hS0 | exact hS1 | exact hS2 | exact hS3) _ rfl ?_; intro g4 c4 w5 hown hgr hat hlt4; obtain ⟨p9, q9⟩ := (show _ ∧ _ from (by first | exact HM0.out.cell4 HO0.out hgr (by decide) 5 (u := .slice M.a5 P.rz.length M.c5) rfl | exact HM1.out.cell4 HO1.out hgr (by decide) 5 (u := .slice M.a5 P.rz.length M.c5) rfl | exact HM2.out.cell4 HO2.out hgr (by decide) 5 (u := .slice M.a5 P.rz.length M.c5) rfl | exact HM3.out.cell4 HO3.out hgr (by decide) 5 (u := .slice M.a5 P.rz.length M.c5) rfl))))
  all_goals
    have HF := hide (show MR w (w5.setCell ⟨W.heap.size, 5, none⟩ (.slice (some ⟨g4, 0, none⟩) (P.rz.length + 1) c4)) r a n c zs (k + 1 + 1) W.heap.size (W.heap.size + 1) _ _ from (by first | exact MR.reloc (x := 0) HM0.out hown hgr hat | exact MR.reloc (x := 0) HM1.out hown hgr hat | exact MR.reloc (x := 0) HM2.out hown hgr hat | exact MR.reloc (x := 0) HM3.out hown hgr hat))
    clear HM0 HO0 HN0 hS0 HM1 HO1 HN1 hS1 HM2 HO2 HN2 hS2 HM3 HO3 HN3 hS3 hown hgr hat hlt4 p9 q9 p0 q0 p1 q1 p2 q2 HR2
    generalize w5.setCell ⟨W.heap.size, 5, none⟩ (.slice (some ⟨g4, 0, none⟩) (P.rz.length + 1) c4) = W5 at *
    obtain ⟨b0, b1, b2, b3, b4, b5, b6, b7⟩ := HF.out.m.box.eight'
    obtain ⟨f0, f1, f2, f3, f4, f5, f6, f7⟩ := HF.out.m.box.froz
    obtain ⟨r0, r1, r2, r3, r4, r5, r6, r7⟩ := z8_cells HF.out.res
    obtain ⟨s0, s1, s2, s3, s4, s5, s6, s7⟩ := HF.out.res.froz
    go_wp2
    refine spl_end HF.out.res rfl _ _ _ _ _ _ _ _ _ _ rfl ?_
    exact spl_fin HF.out _ _ _ _ _ _ _ _ (by simp [modV])
def Ivn {α : Type} (p : List Int → Option (α × List Int)) (e : α → List Int) : Prop := ∀ zs x r, Byt zs → p zs = some (x, r) → zs = e x ++ r ∧ Byt r
def s124 (s : Nat) : Prop := s = 1 ∨ s = 2 ∨ s = 4
theorem encN_low {s : Nat} (hs : s124 s) {zs : List Int} (hz : Byt zs) (hl : zs.length = s) : encN (low zs) s = zs := by
  rcases hs with rfl | rfl | rfl
  · match zs, hl with
    | [a], _ =>
      have ha := hz a (by simp)
      show [low [a] / (256:Int)^0 % 256] = [a]
      simp only [low, show (256:Int)^0 = 1 from rfl]
      rw [show (0 * 256 + a) / 1 % 256 = a by omega]
  · match zs, hl with
    | [a, b], _ =>
      have ha := hz a (by simp)
      have hb := hz b (by simp)
      show [low [a, b] / (256:Int)^0 % 256, low [a, b] / (256:Int)^1 % 256] = [a, b]
      simp only [low, show (256:Int)^0 = 1 from rfl, show (256:Int)^1 = 256 from rfl]
      rw [show ((0 * 256 + b) * 256 + a) / 1 % 256 = a by omega, show ((0 * 256 + b) * 256 + a) / 256 % 256 = b by omega]
  · match zs, hl with
    | [a, b, c, d], _ =>
      have ha := hz a (by simp)
      have hb := hz b (by simp)
      have hc := hz c (by simp)
      have hd := hz d (by simp)
      show [low [a, b, c, d] / (256:Int)^0 % 256, low [a, b, c, d] / (256:Int)^1 % 256, low [a, b, c, d] / (256:Int)^2 % 256, low [a, b, c, d] / (256:Int)^3 % 256] = [a, b, c, d]
      simp only [low, show (256:Int)^0 = 1 from rfl, show (256:Int)^1 = 256 from rfl, show (256:Int)^2 = 65536 from rfl, show (256:Int)^3 = 16777216 from rfl]
      rw [show ((((0 * 256 + d) * 256 + c) * 256 + b) * 256 + a) / 1 % 256 = a by omega, show ((((0 * 256 + d) * 256 + c) * 256 + b) * 256 + a) / 256 % 256 = b by omega, show ((((0 * 256 + d) * 256 + c) * 256 + b) * 256 + a) / 65536 % 256 = c by omega, show ((((0 * 256 + d) * 256 + c) * 256 + b) * 256 + a) / 16777216 % 256 = d by omega]
theorem ivn_N {s : Nat} (hs : s124 s) : Ivn (pN s) (fun v => encN v s) := fun zs x r hz h => by
  unfold pN at h
  split at h
  · rename_i hl
    simp only [Option.some.injEq, Prod.mk.injEq] at h
    obtain ⟨rfl, rfl⟩ := h
    refine ⟨?_, hz.drop s⟩
    show zs = encN (low (zs.take s)) s ++ zs.drop s
    rw [encN_low hs (hz.take s) (by simp; omega), List.take_append_drop]
  · cases h
theorem ivn_B {n : Nat} {zs x r : List Int} (hz : Byt zs) (h : pB n zs = some (x, r)) : zs = x ++ r ∧ Byt x ∧ Byt r ∧ x.length = n := by
  unfold pB at h
  split at h
  · rename_i hl
    simp only [Option.some.injEq, Prod.mk.injEq] at h
    obtain ⟨rfl, rfl⟩ := h
    exact ⟨(List.take_append_drop _ _).symm, hz.take n, hz.drop n, by simp; omega⟩
  · cases h
theorem strB_strOf {y : List Int} (h : Byt y) : strB (strOf y) = y := by
  unfold strOf strB
  simp only [List.map_map]
  conv => rhs; rw [← List.map_id y]
  refine List.map_congr_left (fun z hz => ?_)
  have := h z hz
  show ((UInt8.ofNat z.toNat).toNat : Int) = z
  rw [UInt8.toNat_ofNat']
  omega
theorem ivn_T : Ivn pT encT := fun zs s r hz h => by
  simp only [pT, Option.bind_eq_some_iff, Option.map_eq_some_iff] at h
  obtain ⟨⟨n, r1⟩, h1, ⟨y, r2⟩, h2, h3⟩ := h
  simp only [Prod.mk.injEq] at h3
  obtain ⟨rfl, rfl⟩ := h3
  obtain ⟨e1, z1⟩ := ivn_N (Or.inl rfl) zs n r1 hz h1
  obtain ⟨e2, z2, z3, hl⟩ := ivn_B z1 h2
  have hn := (gives_pN 1 (by omega) zs n r1 hz h1).1.1
  refine ⟨?_, z3⟩
  rw [e1, e2]
  unfold encT
  rw [strB_strOf z2, strOf_size, hl, Int.toNat_of_nonneg hn, List.append_assoc]
theorem ivn_M {α : Type} {p : List Int → Option (α × List Int)} {e : α → List Int} (h : Ivn p e) : ∀ (k : Nat) (zs : List Int) (xs : List α) (r : List Int), Byt zs → pM p k zs = some (xs, r) → zs = xs.flatMap e ++ r ∧ Byt r
  | 0, zs, xs, r, hz, hp => by
    have hp' : some (([] : List α), zs) = some (xs, r) := hp
    simp only [Option.some.injEq, Prod.mk.injEq] at hp'
    obtain ⟨rfl, rfl⟩ := hp'
    exact ⟨by simp, hz⟩
  | k + 1, zs, xs, r, hz, hp => by
    have hp' : (pM p k zs).bind (fun x => (p x.2).map fun y => (x.1 ++ [y.1], y.2)) = some (xs, r) := hp
    simp only [Option.bind_eq_some_iff, Option.map_eq_some_iff] at hp'
    obtain ⟨⟨ys, r1⟩, h1, ⟨y, r2⟩, h2, h3⟩ := hp'
    simp only [Prod.mk.injEq] at h3
    obtain ⟨rfl, rfl⟩ := h3
    obtain ⟨e1, z1⟩ := ivn_M h k zs ys r1 hz h1
    obtain ⟨e2, z2⟩ := h r1 y r2 z1 h2
    refine ⟨?_, z2⟩
    rw [e1, e2]
    simp [List.flatMap_append, List.append_assoc]
theorem encW_all (s : Nat) (zs : List Int) : encW s zs zs.length = zs.flatMap fun z => encN z s := by
  unfold encW
  rw [List.take_length]
abbrev okW (z : Int) : Prop := 0 ≤ z ∧ z ≤ 4294967295
theorem nat_of {n : Int} {k : Nat} (h : 0 ≤ n) (e : k = n.toNat) : n = (k : Int) := by omega
theorem ivn_L : Ivn pL encL := fun zs l r hz h => by
  simp only [pL, Option.bind_eq_some_iff] at h
  obtain ⟨⟨n, r1⟩, h1, h2⟩ := h
  obtain ⟨e1, z1⟩ := ivn_N (Or.inr (Or.inl rfl)) zs n r1 hz h1
  obtain ⟨e2, z2⟩ := ivn_M (ivn_N (Or.inr (Or.inr rfl))) _ _ _ _ z1 h2
  have hn := (gives_pN 2 (by omega) zs n r1 hz h1).1.1
  refine ⟨?_, z2⟩
  unfold encL
  rw [encW_all, List.append_assoc, ← e2, ← nat_of hn (pM_len h2)]
  exact e1
theorem ivn_X : Ivn pX encX := fun zs x r hz h => by
  simp only [pX, Option.bind_eq_some_iff, Option.map_eq_some_iff] at h
  obtain ⟨⟨s, r1⟩, h1, ⟨b, r2⟩, h2, ⟨a, r3⟩, h3, h4⟩ := h
  simp only [Prod.mk.injEq] at h4
  obtain ⟨rfl, rfl⟩ := h4
  obtain ⟨e1, z1⟩ := ivn_T zs s r1 hz h1
  obtain ⟨e2, z2⟩ := ivn_N (Or.inl rfl) r1 b r2 z1 h2
  obtain ⟨e3, z3⟩ := ivn_N (Or.inr (Or.inl rfl)) r2 a r3 z2 h3
  refine ⟨?_, z3⟩
  unfold encX
  rw [e1, e2, e3]
  dsimp only
  rw [show b - 1 + 1 = b by omega, List.append_assoc, List.append_assoc]
def encQ (P : PMod) : List Int := encT P.nm ++ (encL P.tz ++ (encN P.bl.length 1 ++ (P.bl.flatMap encL ++ (encN P.dz.length 2 ++ (P.dz ++ (encN P.bss 2 ++ (encN P.rz.length 1 ++ (P.rz.flatMap (fun z => encN z 2) ++ (encN P.ss.length 1 ++ (P.ss.flatMap encT ++ (encN P.es.length 1 ++ P.es.flatMap encX)))))))))))
def encP (P : PMod) : List Int := encM P.nm P.tz P.bl.length (bkOf P.bl) P.dz.length P.dz P.bss P.rz.length P.rz P.ss.length P.ss P.es.length P.es
theorem encP_eq (P : PMod) : encP P = [88, 77] ++ encQ P := by
  have e1 : encBs (bkOf P.bl) P.bl.length = P.bl.flatMap encL := by
    unfold encBs bkOf
    rw [List.take_of_length_le (by simp), List.flatMap_map]
  unfold encP encM enc4 enc3 enc2 enc1 enc0 encQ encXs encTs
  rw [e1, encW_all, List.take_length, List.take_length]
  simp only [List.append_assoc]
structure Vp (P : PMod) : Prop where
  n : P.nm.size ≤ 12
  t : P.tz.length ≤ 200
  tw : ∀ z ∈ P.tz, okW z
  b : P.bl.length ≤ 4
  bw : ∀ l ∈ P.bl, l.length ≤ 64 ∧ ∀ z ∈ l, okW z
  d : P.dz.length ≤ 512
  s : 0 ≤ P.bss ∧ P.bss ≤ 512
  r : P.rz.length ≤ 16
  rw : ∀ z ∈ P.rz, 0 ≤ z ∧ z ≤ 512
  i : P.ss.length ≤ 16
  iw : ∀ s ∈ P.ss, s.size ≤ 25
  e : P.es.length ≤ 16
  ew : ∀ x ∈ P.es, x.1.size ≤ 12 ∧ -1 ≤ x.2.1 ∧ x.2.1 ≤ 4 ∧ 0 ≤ x.2.2 ∧ x.2.2 ≤ 200
theorem vp_of {P : PMod} (h : mdoP P = 0) : Vp P := by
  unfold mdoP at h
  have V := vm_of_mdo (by simp [bkOf]) h
  refine ⟨V.n, V.t, V.tw, V.b, fun l hl => ?_, V.d, V.s, V.r, fun z hz => ?_, V.i, fun s hs => ?_, V.e, fun x hx => ?_⟩
  · obtain ⟨i, hi, rfl⟩ := List.getElem_of_mem hl
    have := V.bw i (by simp [bkOf]; exact hi)
    simpa [bkOf, List.getD_eq_getElem?_getD, hi] using this
  · obtain ⟨i, hi, rfl⟩ := List.getElem_of_mem hz
    have := V.rw i hi
    simpa [List.getD_eq_getElem?_getD, hi] using this
  · obtain ⟨i, hi, rfl⟩ := List.getElem_of_mem hs
    have := V.iw i hi
    simpa [List.getD_eq_getElem?_getD, hi] using this
  · obtain ⟨i, hi, rfl⟩ := List.getElem_of_mem hx
    have := V.ew i hi
    simpa [List.getD_eq_getElem?_getD, hi] using this
theorem enc_pMod {P : PMod} {zs r : List Int} (hz : Byt zs) (h : pMod zs = some (P, r)) : zs = encQ P ++ r := by
  simp only [pMod, Option.bind_eq_some_iff, Option.map_eq_some_iff] at h
  obtain ⟨⟨a, ra⟩, ha, ⟨b, rb⟩, hb, ⟨nb, rnb⟩, hnb, ⟨c, rc⟩, hc, ⟨nd, rnd⟩, hnd, ⟨d, rd⟩, hd, ⟨e, re⟩, he, ⟨nr, rnr⟩, hnr, ⟨f, rf⟩, hf, ⟨ni, rni⟩, hni, ⟨g, rg⟩, hg, ⟨ne, rne⟩, hne, ⟨x, rx⟩, hx, hP⟩ := h
  dsimp only at ha hb hnb hc hnd hd he hnr hf hni hg hne hx hP
  simp only [Prod.mk.injEq] at hP
  obtain ⟨rfl, rfl⟩ := hP
  obtain ⟨e1, z1⟩ := ivn_T _ _ _ hz ha
  obtain ⟨e2, z2⟩ := ivn_L _ _ _ z1 hb
  obtain ⟨e3, z3⟩ := ivn_N (Or.inl rfl) _ _ _ z2 hnb
  have n3 := nat_of (gives_pN 1 (by omega) _ _ _ z2 hnb).1.1 (pM_len hc)
  obtain ⟨e4, z4⟩ := ivn_M ivn_L _ _ _ _ z3 hc
  obtain ⟨e5, z5⟩ := ivn_N (Or.inr (Or.inl rfl)) _ _ _ z4 hnd
  obtain ⟨e6, z6', z6, l6⟩ := ivn_B z5 hd
  have n5 := nat_of (gives_pN 2 (by omega) _ _ _ z4 hnd).1.1 l6
  obtain ⟨e7, z7⟩ := ivn_N (Or.inr (Or.inl rfl)) _ _ _ z6 he
  obtain ⟨e8, z8⟩ := ivn_N (Or.inl rfl) _ _ _ z7 hnr
  have n8 := nat_of (gives_pN 1 (by omega) _ _ _ z7 hnr).1.1 (pM_len hf)
  obtain ⟨e9, z9⟩ := ivn_M (ivn_N (Or.inr (Or.inl rfl))) _ _ _ _ z8 hf
  obtain ⟨e10, z10⟩ := ivn_N (Or.inl rfl) _ _ _ z9 hni
  have n10 := nat_of (gives_pN 1 (by omega) _ _ _ z9 hni).1.1 (pM_len hg)
  obtain ⟨e11, z11⟩ := ivn_M ivn_T _ _ _ _ z10 hg
  obtain ⟨e12, z12⟩ := ivn_N (Or.inl rfl) _ _ _ z11 hne
  have n12 := nat_of (gives_pN 1 (by omega) _ _ _ z11 hne).1.1 (pM_len hx)
  obtain ⟨e13, z13⟩ := ivn_M ivn_X _ _ _ _ z12 hx
  unfold encQ
  dsimp only
  rw [← n3, ← n5, ← n8, ← n10, ← n12]
  simp only [List.append_assoc]
  rw [← e13, ← e12, ← e11, ← e10, ← e9, ← e8, ← e7, ← e6, ← e5, ← e4, ← e3, ← e2, ← e1]
theorem flen {α : Type} (e : α → List Int) (m : Nat) : ∀ (xs : List α), (∀ x ∈ xs, (e x).length ≤ m) → (xs.flatMap e).length ≤ xs.length * m
  | [], _ => by simp
  | x :: xs, h => by
    have h1 := h x (by simp)
    have h2 := flen e m xs (fun y hy => h y (by simp [hy]))
    simp only [List.flatMap_cons, List.length_append, List.length_cons]
    rw [Nat.add_mul]
    omega
theorem encQ_len {P : PMod} (V : Vp P) : (encQ P).length ≤ 4000 := by
  have h1 := flen encL 258 P.bl (fun l hl => by have := (V.bw l hl).1; rw [encL_len]; omega)
  have h2 := flen (fun z => encN z 2) 2 P.rz (fun z _ => by simp [encN_len])
  have h3 := flen encT 26 P.ss (fun s hs => by have := V.iw s hs; rw [encT_len]; omega)
  have h4 := flen encX 16 P.es (fun x hx => by have := (V.ew x hx).1; unfold encX; simp only [List.length_append, encT_len, encN_len]; omega)
  have v1 := V.n
  have v2 := V.t
  have v4 := V.b
  have v6 := V.d
  have v8 := V.r
  have v10 := V.i
  have v12 := V.e
  unfold encQ
  simp only [List.length_append, encT_len, encN_len, encL_len]
  omega
theorem encQ_byt {P : PMod} (hd : Byt P.dz) : Byt (encQ P) := by
  have hT : ∀ s, Byt (encT s) := fun s => app_range (encN_range _ _) (strB_range _)
  have hL : ∀ l, Byt (encL l) := fun l => app_range (encN_range _ _) (encW_range _ _ _)
  have hM : ∀ {α : Type} (e : α → List Int), (∀ x, Byt (e x)) → ∀ xs : List α, Byt (xs.flatMap e) := fun e he xs z hz => by
    rw [List.mem_flatMap] at hz
    obtain ⟨x, _, hx⟩ := hz
    exact he x z hx
  unfold encQ
  exact app_range (hT _) (app_range (hL _) (app_range (encN_range _ _) (app_range (hM _ hL _) (app_range (encN_range _ _) (app_range hd (app_range (encN_range _ _) (app_range (encN_range _ _) (app_range (hM _ (fun x => encN_range _ _) _) (app_range (encN_range _ _) (app_range (hM _ hT _) (app_range (encN_range _ _) (hM _ (fun x => app_range (hT _) (app_range (encN_range _ _) (encN_range _ _))) _))))))))))))
theorem encP_byt {P : PMod} (hd : Byt P.dz) : Byt (encP P) := by
  rw [encP_eq]
  exact app_range (fun z hz => by simp at hz; omega) (encQ_byt hd)
theorem enc_prs {P : PMod} {zs : List Int} {c : Int} (hz : Byt zs) (h : prs zs = (c, some P)) : encP P = zs ∧ mdoP P = 0 ∧ c = 0 := by
  unfold prs at h
  split at h
  · simp at h
  split at h
  · simp at h
  rename_i hm
  obtain ⟨m1, m2, m3⟩ := (mark_of hz).1 (by simpa using hm)
  split at h
  · simp at h
  · rename_i x hx
    split at h
    · simp at h
    split at h
    · simp at h
    · rename_i h1 h2
      simp only [Prod.mk.injEq, Option.some.injEq] at h
      obtain ⟨rfl, rfl⟩ := h
      refine ⟨?_, by simpa using h2, rfl⟩
      have e0 : x.2 = [] := by simpa using h1
      have := enc_pMod (hz.drop 2) (show pMod (zs.drop 2) = some (x.1, x.2) from hx)
      rw [e0, List.append_nil] at this
      rw [encP_eq, ← this]
      match zs, m1, m2, m3 with
      | a :: b :: t, _, h2, h3 =>
        simp at h2 h3
        simp [h2, h3]
theorem MO.md {W : World} {base : Nat} {P : PMod} {M : Ma} (h : MO W base P M) (R : DoR P) :
    MD W P.nm M.a1 P.tz.length M.c1 P.tz M.a2 M.bl.length M.c2 M.bl M.a3 P.dz.length M.c3 P.dz P.bss M.a5 P.rz.length M.c5 P.rz M.a6 P.ss.length M.c6 P.ss M.a7 P.es.length M.c7 P.es where
  n := by have := R.n; omega
  t := og_is h.t (fun z hz => by have := R.t.2 z hz; unfold wfi; omega)
  b := obk_bks h.b (fun B hB z hz => by
    have hm : B.2.2.2 ∈ P.bl := by rw [← h.bls]; exact List.mem_map.2 ⟨B, hB, rfl⟩
    have := (R.b.2 _ hm).2 z hz
    unfold wfi
    omega)
  d := h.d.bs
  s := by have := R.s; unfold wfi; omega
  r := og_is h.r (fun z hz => by have := R.r.2 z hz; unfold wfi; omega)
  i := og_ss h.i (fun s hs => by have := R.i.2 s hs; omega)
  e := og_es h.e (fun s hs => by have := (R.e.2 s hs).1; omega)
theorem MO.mdo' {W : World} {base : Nat} {P : PMod} {M : Ma} (h : MO W base P M) : mdo P.nm P.tz.length P.tz M.bl.length M.bl P.dz.length P.bss P.rz.length P.rz P.ss.length P.ss P.es.length P.es = mdoP P := ModO.mdo h
theorem encP_bl {P : PMod} {bl : List Bk} (h : bl.map (fun B => B.2.2.2) = P.bl) : encM P.nm P.tz bl.length bl P.dz.length P.dz P.bss P.rz.length P.rz P.ss.length P.ss P.es.length P.es = encP P := by
  have hl : bl.length = P.bl.length := by rw [← h, List.length_map]
  have e : encBs bl bl.length = encBs (bkOf P.bl) P.bl.length := by
    unfold encBs bkOf
    rw [List.take_length, List.take_of_length_le (by simp), List.flatMap_map, ← h, List.flatMap_map]
  unfold encP encM enc4 enc3 enc2
  rw [e, hl]
end Go.Proofs.Ytngdgogjlpjjpad
