import Derived.Test.YtngdgogjlpjjpadP06
import Derived.Test.YtngdgogjlpjjpadP31
import Derived.Test.YtngdgogjlpjjpadP34
namespace Go.Proofs.Ytngdgogjlpjjpad
open Go.RowKit
set_option linter.unusedVariables false
set_option linter.unusedSimpArgs false
set_option maxRecDepth 100000
set_option maxHeartbeats 2000000 in
theorem sp6_2 (zs : List Int) (k : Nat) (K V : Int) (E1 : Hid (zs.getD k 0 = K)) (E2 : Hid (zs.getD (k + 1) 0 = V)) (z0 : 0 ≤ K) (z1 : K ≤ 255) (y0 : 0 ≤ V) (y1 : V ≤ 255) (P : PMod) (DP : DnR P) (c0 : K % 12 = 6) (c1 : V % 5 = 2) : SpFn zs k P { P with rz := P.rz ++ [(P.dz.length : Int) - 4] } (k + 2) := by
  intro w W r a n c M D o ds
  have R0 := mr_spoil D o ds
  have hs0 := D.sz
  have hrl : P.rz.length ≤ 1 := by rcases DP.r with e | e <;> rw [e] <;> simp
  have hdl := DP.d.1
  clear D o ds
  go_enter Try.func60, Try.ntmps60
  go_wp2_with fail
  refine (R0.next K E1).mono ?_
  rintro e w1 ⟨rfl, R1⟩
  clear R0
  go_wp2_with fail
  refine (R1.next V E2).mono ?_
  rintro e w2 ⟨rfl, R2⟩
  clear R1 E1 E2
  obtain ⟨p0, q0⟩ := R2.two 5 (.slice M.a5 P.rz.length M.c5) rfl
  obtain ⟨p1, q1⟩ := (R2.below (al_below w2 (.cells #[.int .i64 2, .int .i64 0, .int .i64 ((P.dz.length : Int) - 4), .int .i64 ((P.dz.length : Int)), .int .i64 (-4)] 3))).two 5 (.slice M.a5 P.rz.length M.c5) rfl
  obtain ⟨p2, q2⟩ := ((R2.below (al_below w2 (.cells #[.int .i64 2, .int .i64 0, .int .i64 ((P.dz.length : Int) - 4), .int .i64 ((P.dz.length : Int)), .int .i64 (-4)] 3))).below (al_below (w2.alloc (.cells #[.int .i64 2, .int .i64 0, .int .i64 ((P.dz.length : Int) - 4), .int .i64 ((P.dz.length : Int)), .int .i64 (-4)] 3)) (.cells #[.int .i64 ((P.dz.length : Int) - 4)] 3))).two 5 (.slice M.a5 P.rz.length M.c5) rfl
  have HM0 := hide ((R2.drew.below (al_below w2.drew (.cells #[.int .i64 2, .int .i64 0, .int .i64 ((P.dz.length : Int) - 4), .int .i64 ((P.dz.length : Int)), .int .i64 (-4)] 3))).below (al_below (w2.drew.alloc (.cells #[.int .i64 2, .int .i64 0, .int .i64 ((P.dz.length : Int) - 4), .int .i64 ((P.dz.length : Int)), .int .i64 (-4)] 3)) (.cells #[.int .i64 ((P.dz.length : Int) - 4)] 3)))
  have HM1 := hide ((R2.below (al_below w2 (.cells #[.int .i64 2, .int .i64 0, .int .i64 ((P.dz.length : Int) - 4), .int .i64 ((P.dz.length : Int)), .int .i64 (-4)] 3))).drew.below (al_below (w2.alloc (.cells #[.int .i64 2, .int .i64 0, .int .i64 ((P.dz.length : Int) - 4), .int .i64 ((P.dz.length : Int)), .int .i64 (-4)] 3)).drew (.cells #[.int .i64 ((P.dz.length : Int) - 4)] 3)))
  have HM2 := hide ((R2.below (al_below w2 (.cells #[.int .i64 2, .int .i64 0, .int .i64 ((P.dz.length : Int) - 4), .int .i64 ((P.dz.length : Int)), .int .i64 (-4)] 3))).below (al_below (w2.alloc (.cells #[.int .i64 2, .int .i64 0, .int .i64 ((P.dz.length : Int) - 4), .int .i64 ((P.dz.length : Int)), .int .i64 (-4)] 3)) (.cells #[.int .i64 ((P.dz.length : Int) - 4)] 3))).drew
  have HM3 := hide ((R2.below (al_below w2 (.cells #[.int .i64 2, .int .i64 0, .int .i64 ((P.dz.length : Int) - 4), .int .i64 ((P.dz.length : Int)), .int .i64 (-4)] 3))).below (al_below (w2.alloc (.cells #[.int .i64 2, .int .i64 0, .int .i64 ((P.dz.length : Int) - 4), .int .i64 ((P.dz.length : Int)), .int .i64 (-4)] 3)) (.cells #[.int .i64 ((P.dz.length : Int) - 4)] 3)))
  have HO0 := hide HM0.out.m.o.r
  have hS0 := HM0.out.m.d.sz
  have HO1 := hide HM1.out.m.o.r
  have hS1 := HM1.out.m.d.sz
  have HO2 := hide HM2.out.m.o.r
  have hS2 := HM2.out.m.d.sz
  have HO3 := hide HM3.out.m.o.r
  have hS3 := HM3.out.m.d.sz
  have HN0 := hide (cells_at (w2.drew.alloc (.cells #[.int .i64 2, .int .i64 0, .int .i64 ((P.dz.length : Int) - 4), .int .i64 ((P.dz.length : Int)), .int .i64 (-4)] 3)) (w2.heap.size + 1) _ 3 (clI ((P.dz.length : Int) - 4)) rfl (by simp [drw_sz]))
  have HN1 := hide (cells_at (w2.alloc (.cells #[.int .i64 2, .int .i64 0, .int .i64 ((P.dz.length : Int) - 4), .int .i64 ((P.dz.length : Int)), .int .i64 (-4)] 3)).drew (w2.heap.size + 1) _ 3 (clI ((P.dz.length : Int) - 4)) rfl (by simp [drw_sz]))
  have HN2 := hide (cells_at (w2.alloc (.cells #[.int .i64 2, .int .i64 0, .int .i64 ((P.dz.length : Int) - 4), .int .i64 ((P.dz.length : Int)), .int .i64 (-4)] 3)) (w2.heap.size + 1) _ 3 (clI ((P.dz.length : Int) - 4)) rfl (by simp [drw_sz]))
  have HN3 := hide (cells_at (w2.alloc (.cells #[.int .i64 2, .int .i64 0, .int .i64 ((P.dz.length : Int) - 4), .int .i64 ((P.dz.length : Int)), .int .i64 (-4)] 3)) (w2.heap.size + 1) _ 3 (clI ((P.dz.length : Int) - 4)) rfl (by simp [drw_sz]))
  have ct : V.tmod 5 = 2 := by rw [Int.tmod_eq_emod_of_nonneg y0]; exact c1
  have ew : IntKind.i64.wrap ((P.dz.length : Int) - 4) = (P.dz.length : Int) - 4 := wrap_small _ (by omega) (by omega)
  obtain ⟨pd, qd⟩ := R2.two 3 (.slice M.a3 P.dz.length M.c3) rfl
  obtain ⟨iI, hiI, hz0iI, hz1iI, hz2iI⟩ := info_parts infoI
  have HR2 := hide R2
  clear R2
  go_wp2_with fail
  go_region_law (first
    | (refine step_append_lies _ rfl _ _ 24 rfl w.heap.size 3 iI (.int .i64 0) 1 8 Try.underlying24 hiI hz0iI hz1iI hz2iI rfl (by decide) (.slice M.a5 P.rz.length M.c5) P.rz.length (P.rz.flatMap clI) rfl (by first | exact HO0.out | exact HO1.out | exact HO2.out | exact HO3.out) ⟨w2.heap.size + 1, 0, none⟩ 1 1 (clI ((P.dz.length : Int) - 4)) rfl rfl (by first | exact HN0.out | exact HN1.out | exact HN2.out | exact HN3.out) (by intro u hu; simp [clI, clT, clX] at hu; first | (subst hu; rfl) | (rcases hu with rfl | rfl | rfl <;> rfl)) (by decide) (by unfold maxLen; omega) (by omega) (by first | exact hS0 | exact hS1 | exact hS2 | exact hS3) _ rfl ?_; intro g4 c4 w5 hown hgr hat hlt4; obtain ⟨p9, q9⟩ := (show _ ∧ _ from (by first | exact HM0.out.cell4 HO0.out hgr (by decide) 5 (u := .slice M.a5 P.rz.length M.c5) rfl | exact HM1.out.cell4 HO1.out hgr (by decide) 5 (u := .slice M.a5 P.rz.length M.c5) rfl | exact HM2.out.cell4 HO2.out hgr (by decide) 5 (u := .slice M.a5 P.rz.length M.c5) rfl | exact HM3.out.cell4 HO3.out hgr (by decide) 5 (u := .slice M.a5 P.rz.length M.c5) rfl))))
  all_goals
    have HF := hide (show MR w (w5.setCell ⟨W.heap.size, 5, none⟩ (.slice (some ⟨g4, 0, none⟩) (P.rz.length + 1) c4)) r a n c zs (k + 1 + 1) W.heap.size (W.heap.size + 1) _ _ from (by first | exact MR.reloc (x := (P.dz.length : Int) - 4) HM0.out hown hgr hat | exact MR.reloc (x := (P.dz.length : Int) - 4) HM1.out hown hgr hat | exact MR.reloc (x := (P.dz.length : Int) - 4) HM2.out hown hgr hat | exact MR.reloc (x := (P.dz.length : Int) - 4) HM3.out hown hgr hat))
    clear HM0 HO0 HN0 hS0 HM1 HO1 HN1 hS1 HM2 HO2 HN2 hS2 HM3 HO3 HN3 hS3 hown hgr hat hlt4 p9 q9 p0 q0 p1 q1 p2 q2 HR2
    generalize w5.setCell ⟨W.heap.size, 5, none⟩ (.slice (some ⟨g4, 0, none⟩) (P.rz.length + 1) c4) = W5 at *
    obtain ⟨b0, b1, b2, b3, b4, b5, b6, b7⟩ := HF.out.m.box.eight'
    obtain ⟨f0, f1, f2, f3, f4, f5, f6, f7⟩ := HF.out.m.box.froz
    obtain ⟨r0, r1, r2, r3, r4, r5, r6, r7⟩ := z8_cells HF.out.res
    obtain ⟨s0, s1, s2, s3, s4, s5, s6, s7⟩ := HF.out.res.froz
    go_wp2
    refine spl_end HF.out.res rfl _ _ _ _ _ _ _ _ _ _ rfl ?_
    exact spl_fin HF.out _ _ _ _ _ _ _ _ (by simp [modV])
theorem str_cells (s : ByteArray) : Lib.strCells s = (strB s).map (Value.int .u8) := by simp [Lib.strCells, strB]
theorem own_text {w0 W : World} {g q n c : Nat} {out : List Int} {s : ByteArray} {v' : Value} {w' : World} (hb : Blk W g #[.slice (some ⟨q, 0, none⟩) n c] 64) (ho : OB W w0.heap.size (.slice (some ⟨q, 0, none⟩) n c) out) (hB : Below w0.heap.size w0 W) (hl : w0.heap.size ≤ g) (hn0 : 0 < n)
    (hown : w'.ownsRow w0.heap.size 5 1 v' (n + s.size) (out.map (Value.int .u8) ++ Lib.strCells s)) (hg : W.grownBy w' (some q)) :
    ∃ q' d, v' = .slice (some ⟨q', 0, none⟩) (n + s.size) d ∧ Iw w0 (w'.setCell ⟨g, 0, none⟩ (.slice (some ⟨q', 0, none⟩) (n + s.size) d)) g q' (n + s.size) d (out ++ strB s) ∧ OB (w'.setCell ⟨g, 0, none⟩ (.slice (some ⟨q', 0, none⟩) (n + s.size) d)) w0.heap.size (.slice (some ⟨q', 0, none⟩) (n + s.size) d) (out ++ strB s) ∧ KeepT g W (w'.setCell ⟨g, 0, none⟩ (.slice (some ⟨q', 0, none⟩) (n + s.size) d)) ∧ w'.cell? ⟨g, 0, none⟩ = some (.slice (some ⟨q, 0, none⟩) n c) ∧ w'.frozen? ⟨g, 0, none⟩ = false := by
  have hln := ho.bs.1
  have o1 : OB w' w0.heap.size v' (out ++ strB s) := ob_join ho.2 (strB_range s) (by rw [hln, strB_len, ← str_cells]; exact hown)
  obtain ⟨q', d, rfl, _⟩ := World.ownsRow.form hown (by omega)
  have hb1 := grown_blk hg hb (fun e => by injection e with e; exact ob_apart ho hb (by decide) e)
  have hgq := ob_apart o1 hb1 (by decide)
  have hq := (ho.lt q rfl).1
  have o2 := ob_set_far (g := g) (i := 0) (u := .slice (some ⟨q', 0, none⟩) (n + s.size) d) o1 hgq
  have b2 : Blk (w'.setCell ⟨g, 0, none⟩ (.slice (some ⟨q', 0, none⟩) (n + s.size) d)) g #[.slice (some ⟨q', 0, none⟩) (n + s.size) d] 64 := by simpa using hb1.set 0 (.slice (some ⟨q', 0, none⟩) (n + s.size) d)
  have B2 := below_set' (i := 0) (u := .slice (some ⟨q', 0, none⟩) (n + s.size) d) (below_grown' hB hg hB.size hq) hl
  exact ⟨q', d, rfl, iw_of b2 o2 B2 hl, o2, (grown_keep hg ho).set, by simpa using hb1.cell 0, hb1.frozen 0⟩
set_option maxHeartbeats 1000000 in
theorem text_any (w0 W : World) (g q n c : Nat) (out : List Int) (s : ByteArray) (h : Iw w0 W g q n c out) (hs : s.size ≤ 1000) (hn0 : 0 < n) (hn : n ≤ 39000) :
    Calls Try.prog 79 #[.pointer (some ⟨g, 0, none⟩), .string s] W (IwPost w0 W g (n + (1 + s.size)) (out ++ encT s)) := by
  obtain ⟨i0, hi, hz0, hz1, hz2⟩ := info_parts info8
  have HN := hide (number_any w0 W g q n c out s.size 1 h (Or.inl rfl) (by omega) (by omega) hn0 (by omega))
  have hlo := h.lo
  clear h
  go_enter Try.func79, Try.ntmps79
  go_wp2_with fail
  refine HN.out.mono ?_
  rintro e w1 ⟨rfl, q1, c1, I1, O1, K1⟩
  have x0 := I1.box.cell 0
  simp at x0
  have O1' := O1.1
  rw [O1.bs.1] at O1'
  have HO := hide O1'
  have HB := hide (And.intro I1.box (And.intro O1 (And.intro I1.below K1)))
  clear I1 O1 K1 HN O1'
  go_wp2_with (at_builtin; refine Lib.wpList_append_own_string _ rfl _ _ 22 9 rfl w0.heap.size 5 i0 Try.underlying22 Try.underlying9 hi hz0 hz1 hz2 (.slice (some ⟨q1, 0, none⟩) (n + 1) c1) (n + 1) ((out ++ encN s.size 1).map (Value.int .u8)) rfl HO.out s rfl (by unfold maxLen; omega) (by omega) HB.out.2.2.1.size ?_; intro v' w2 hown hgr _; obtain ⟨q', d, rfl, I2, O2, K2, y0, y1⟩ := own_text HB.out.1 HB.out.2.1 HB.out.2.2.1 hlo (by omega) hown hgr; have HF := hide (And.intro I2 (And.intro O2 K2)); clear I2 O2 K2 hown hgr)
  go_end0
  rw [List.append_assoc, ← Nat.add_assoc] at *
  exact ⟨rfl, q', d, HF.out.1, HF.out.2.1, HB.out.2.2.2.trans HF.out.2.2⟩
set_option maxHeartbeats 1000000 in
theorem words_any (w0 W : World) (g q n c : Nat) (out : List Int) (a : Option Addr) (m cap : Nat) (zs : List Int) (h : Iw w0 W g q n c out) (hI : IS w0 a m cap zs) (hr : ∀ z ∈ zs, 0 ≤ z ∧ z ≤ 4294967295) (hm : m ≤ 1000) (hn0 : 0 < n) (hn : n ≤ 30000) :
    Calls Try.prog 80 #[.pointer (some ⟨g, 0, none⟩), .slice a m cap] W (IwPost w0 W g (n + (2 + m * 4)) (out ++ encL zs)) := by
  have hl := hI.1
  have HN := hide (number_any w0 W g q n c out m 2 h (Or.inr (Or.inl rfl)) (by omega) (by omega) hn0 (by omega))
  have HE := hide (show out ++ encL zs = out ++ encN m 2 ++ encW 4 zs m by unfold encL; rw [hl, List.append_assoc])
  have hlo := h.lo
  clear h
  go_enter Try.func80, Try.ntmps80
  go_wp2_with fail
  refine HN.out.mono ?_
  rintro e w1 ⟨rfl, q1, c1, I1, O1, K1⟩
  go_wp2_with fail
  go_loopw [12] (fun i wr => ∃ (k q c : Nat), k ≤ m ∧ i = .int .i64 k ∧ Iw w0 wr g q (n + 2 + k * 4) c (out ++ encN m 2 ++ encW 4 zs k) ∧ OB wr w0.heap.size (.slice (some ⟨q, 0, none⟩) (n + 2 + k * 4) c) (out ++ encN m 2 ++ encW 4 zs k) ∧ KeepT g W wr) (fun i _ => m - (intOf i).toNat)
  case atStart => exact ⟨0, q1, c1, Nat.zero_le _, rfl, by simpa [encW] using I1, by simpa [encW] using O1, K1⟩
  case round =>
    obtain ⟨k, q2, c2, hk, rfl, I2, O2, K2⟩ := hrel
    clear I1 O1 K1 HN
    by_cases hlt : k < m
    · have hlt' : (k : Int) < (m : Int) := by omega
      obtain ⟨b, off, rfl⟩ := hI.addr (by omega)
      have hc := (hI.below I2.below).at k hlt
      have hz : 0 ≤ zs.getD k 0 ∧ zs.getD k 0 ≤ 4294967295 := hr _ (by simp [List.getD_eq_getElem?_getD, show k < zs.length by omega])
      have HS := hide (show out ++ encN m 2 ++ encW 4 zs (k + 1) = out ++ encN m 2 ++ encW 4 zs k ++ encN (zs.getD k 0) 4 by rw [encW_succ 4 zs k (by omega), List.append_assoc (out ++ encN m 2)])
      generalize out ++ encN m 2 ++ encW 4 zs k = O at *
      generalize zs.getD k 0 = z at *
      have HN := hide (number_any w0 wr g q2 (n + 2 + k * 4) c2 O z 4 I2 (Or.inr (Or.inr rfl)) hz.1 hz.2 (by omega) (by omega))
      clear I2 O2
      go_wp2_with fail
      refine HN.out.mono ?_
      rintro e w3 ⟨rfl, q3, c3, I3, O3, K3⟩
      rw [← HS.out] at I3 O3
      have e4 : n + 2 + k * 4 + 4 = n + 2 + (k + 1) * 4 := by omega
      rw [e4] at I3 O3
      have HF := hide (And.intro I3 (And.intro O3 (K2.trans K3)))
      clear I3 O3 K3 K2 HN e4
      go_wp2
      go_roundw
      case rel => exact ⟨k + 1, q3, c3, by omega, by go_num, HF.out.1, HF.out.2.1, HF.out.2.2⟩
      case measure => simp [intOf]; omega
    · obtain rfl : k = m := by omega
      have HF := hide (And.intro I2 (And.intro O2 K2))
      clear I2 O2 K2
      go_wp2
      go_end0
      rw [HE.out, ← Nat.add_assoc]
      exact ⟨rfl, q2, c2, HF.out.1, HF.out.2.1, HF.out.2.2⟩
end Go.Proofs.Ytngdgogjlpjjpad
