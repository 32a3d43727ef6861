import Derived.Test.YtngdgogjlpjjpaeGreatP29
import Derived.Test.YtngdgogjlpjjpaeGreatP26
import Derived.Test.YtngdgogjlpjjpaeGreatP34
import Derived.Test.YtngdgogjlpjjpaeGreatP35
import Derived.Test.YtngdgogjlpjjpaeGreatP36
namespace Go.Proofs.YtngdgogjlpjjpaeGreat
open Go.RowKit Classical
set_option linter.unusedVariables false
set_option linter.unusedSimpArgs false
set_option maxRecDepth 100000
set_option maxHeartbeats 1000000 in
theorem ld_s4 {a : Act} {W : World} {G i k : Nat} {d : Option Tmp} {ty : TypeId} {p : String} {af : Array _} {gd : Option _} {v0 v1 v2 v3 : Value} (q0 : W.cell? ⟨G, i, none⟩ = some v0) (q1 : W.cell? ⟨G, i + 1, none⟩ = some v1) (q2 : W.cell? ⟨G, i + 2, none⟩ = some v2) (q3 : W.cell? ⟨G, i + 3, none⟩ = some v3) (h : a.tmps[k]?.getD undef = .pointer (some ⟨G, i, none⟩)) : (execOp a.eval { dst := d, op := Op.load 134 (Operand.tmp k), type := ty, pos := p, after := af, guard := gd }).run Tryz.prog W = .ok (.value (.agg #[v0, v1, v2, v3])) W := by
  go_simp
set_option maxHeartbeats 64000000 in
theorem l7SlotsOk_any (M : Mn) (L : Lay) (a0 : Option Addr) (c0 : Nat) (xs : List PB) (a2 : Option Addr) (c2 : Nat) (a5 : Option Addr) (c5 : Nat) (ts : List TB) (w : World) (h : MnD w M) (hL : LyT w L a0 c0 xs a2 c2 a5 c5 ts) (eL : L = M.L) (hk : lkc (pmS M.ms) M.cs M.cw M.ck M.cd = 0) (hr : (M.rn : Int) = L.ram) :
    Calls Tryz.prog 196 #[.agg #[.slice M.ma M.mn M.mc, .int .i64 M.cs, .int .i64 M.cw, .int .i64 M.ck, .int .i64 M.cd, .int .i64 M.pc, .slice M.ka M.kn M.kc, .slice M.fa M.fn M.fc, .slice M.ra M.rn M.rc, .slice M.oa M.on M.oc, .int .i64 M.md, .int .i64 M.bk, .slice M.la M.ln M.lc, .slice M.ha M.hn M.hc, .int .i64 M.tn], .agg #[.slice a0 xs.length c0, .int .i64 L.stack, .slice a2 L.slots.length c2, .int .i64 L.flash, .int .i64 L.ram, .slice a5 ts.length c5]] w (Yn (slsOk (pmS M.ms) L M.cs M.cw M.tn M.rz M.lz ∧ (M.cs = 0 ∨ M.bk = -1 ∨ hld M.lz M.md M.bk ≠ -1)) w) := by
  obtain ⟨hsl, w0, w1⟩ := lkL_sl hk
  have eL' : L = lkL (pmS M.ms) M.cs M.cw M.ck M.cd := eL
  rw [← eL'] at hsl
  have hl := h.l.1
  have hmx := h.l.2.1
  have hmr := h.r.2.1
  have hlm := hL.s.2.1
  have hrc := h.r.2.2.2.2
  unfold maxLen at hmx hmr hlm
  obtain ⟨U, hU⟩ : ∃ U, U = w.alloc (.cells #[.slice M.ma M.mn M.mc, .int .i64 M.cs, .int .i64 M.cw, .int .i64 M.ck, .int .i64 M.cd, .int .i64 M.pc, .slice M.ka M.kn M.kc, .slice M.fa M.fn M.fc, .slice M.ra M.rn M.rc, .slice M.oa M.on M.oc, .int .i64 M.md, .int .i64 M.bk, .slice M.la M.ln M.lc, .slice M.ha M.hn M.hc, .int .i64 M.tn] 54) := ⟨_, rfl⟩
  have bU : Below w.heap.size w U := by rw [hU]; exact (Below.refl _ _).alloc (Nat.le_refl _) _
  have kU : Blk U w.heap.size #[.slice M.ma M.mn M.mc, .int .i64 M.cs, .int .i64 M.cw, .int .i64 M.ck, .int .i64 M.cd, .int .i64 M.pc, .slice M.ka M.kn M.kc, .slice M.fa M.fn M.fc, .slice M.ra M.rn M.rc, .slice M.oa M.on M.oc, .int .i64 M.md, .int .i64 M.bk, .slice M.la M.ln M.lc, .slice M.ha M.hn M.hc, .int .i64 M.tn] 54 := by rw [hU]; exact Blk.new _ _ _
  obtain ⟨V, hV⟩ : ∃ V, V = U.alloc (.cells #[.slice a0 xs.length c0, .int .i64 L.stack, .slice a2 L.slots.length c2, .int .i64 L.flash, .int .i64 L.ram, .slice a5 ts.length c5] 36) := ⟨_, rfl⟩
  have bV : Below U.heap.size U V := by rw [hV]; exact (Below.refl _ _).alloc (Nat.le_refl _) _
  have kV : Blk V U.heap.size #[.slice a0 xs.length c0, .int .i64 L.stack, .slice a2 L.slots.length c2, .int .i64 L.flash, .int .i64 L.ram, .slice a5 ts.length c5] 36 := by rw [hV]; exact Blk.new _ _ _
  have BV := bU.trans (bV.mono bU.size)
  have kU' := kU.below bV
  have HDV := hide (h.below BV)
  have HSV := hide (hL.s.below BV)
  have HU := hide hU
  have HV := hide hV
  have HB := hide BV
  have HC := hide (fun (X : World) (hX : Below V.heap.size V X) => And.intro (kU'.below hX) (kV.below hX))
  have y1 : V.cell? ⟨w.heap.size, 1, none⟩ = some (.int .i64 M.cs) := kU'.cell 1
  have y12 : V.cell? ⟨w.heap.size, 12, none⟩ = some (.slice M.la M.ln M.lc) := kU'.cell 12
  have HRE := hide (Below.refl V.heap.size V)
  have HEQ := hide (And.intro eL' (And.intro hsl (And.intro hr hk)))
  clear hU hV bU bV kU kU' kV BV h hL eL eL' hsl hr hk
  by_cases c0' : ¬ (M.ln : Int) = M.cs
  · have HN := hide (show ¬ (slsOk (pmS M.ms) L M.cs M.cw M.tn M.rz M.lz ∧ (M.cs = 0 ∨ M.bk = -1 ∨ hld M.lz M.md M.bk ≠ -1)) from fun f => c0' (by have := f.1.1; omega))
    have c0'' : ((M.ln : Int) != M.cs) = true := by simp [c0']
    clear c0'
    go_enter Tryz.func196, Tryz.ntmps196
    go_wp2_with (first | rw [← HU.out] | rw [← HV.out])
    go_ret
    exact yn_f HN.out HB.out
  replace c0' : (M.ln : Int) = M.cs := Classical.not_not.1 c0'
  have c0'' : ((M.ln : Int) != M.cs) = false := by simp [c0']
  have HCS := hide c0'
  clear c0'
  by_cases cn : M.ln = 0
  · have HY := hide (show slsOk (pmS M.ms) L M.cs M.cw M.tn M.rz M.lz ∧ (M.cs = 0 ∨ M.bk = -1 ∨ hld M.lz M.md M.bk ≠ -1) from ⟨⟨by have := HCS.out; omega, fun i hi => absurd hi (by omega)⟩, .inl (by have := HCS.out; omega)⟩)
    have HCN := hide cn
    clear cn
    go_enter Tryz.func196, Tryz.ntmps196
    go_wp2_with (first | rw [← HU.out] | rw [← HV.out])
    clear y1 y12
    go_loopw [5] (fun i wr => ∃ k : Nat, i = .int .i64 k ∧ Below V.heap.size V wr) (fun i _ => 0)
    case atStart => exact ⟨0, rfl, HRE.out⟩
    case round =>
      obtain ⟨k, rfl, hB⟩ := hrel
      have hlt : ¬ ((k : Int) < (M.ln : Int)) := by have := HCN.out; omega
      have h0 : ((M.ln : Int) == 0) = true := by rw [HCN.out]; rfl
      have y12 : wr.cell? ⟨w.heap.size, 12, none⟩ = some (.slice M.la M.ln M.lc) := (HC.out wr hB).1.cell 12
      have HB2 := hide hB
      clear hB
      go_wp2
      go_ret
      exact yn_t HY.out (HB.out.trans (HB2.out.mono HB.out.size))
  obtain ⟨g, f, hg⟩ : ∃ g f, M.la = some ⟨g, f, none⟩ := by
    obtain ⟨g, f, hg, _⟩ := HDV.out.l.2.2.1 cn
    exact ⟨g, f, hg⟩
  obtain ⟨eL', hsl, hr, hk⟩ := HEQ.out
  obtain ⟨gs, os, hgs⟩ : ∃ gs os, a2 = some ⟨gs, os, none⟩ := by
    obtain ⟨gs, os, hg, _⟩ := HSV.out.2.2.2.1 (by have := HCS.out; omega)
    exact ⟨gs, os, hg⟩
  have HSC := hide (fun (wr : World) (hB : Below V.heap.size V wr) (k : Nat) (hk : k < L.slots.length) => (show wr.cell? ⟨gs, os + k, none⟩ = some (.int .i64 (L.slots.getD k 0)) from by
    obtain ⟨g', o', he, hc⟩ := (HSV.out.below hB).2.2.2.1 (by omega)
    rw [hgs] at he
    simp at he
    obtain ⟨rfl, rfl⟩ := he
    exact hc k hk))
  have HQ := hide (fun (wr : World) (hB : Below V.heap.size V wr) (k : Nat) (hk : k < M.ln) => (HDV.out.l.below hB).at k hk _ _ _ _ rfl)
  have HSO := hide (fun (k : Nat) (hk : k < M.ln) (b : Bool) (hb : b = true ↔ slk (pmS M.ms) M.tn (M.lz.getD k zSl) ∧ aln M.lz k) (X : World) (hX : Below V.heap.size V X) => (l7SlotOk_any M k X (HDV.out.below hX) hk).mono (fun e w' he => show e = .returned (.bool b) ∧ Below X.heap.size X w' from yn_is he b hb))
  have HSI := hide (fun (k : Nat) (hi : k < L.slots.length) => show 65536 ≤ L.slots.getD k 0 ∧ L.slots.getD k 0 - 65536 + (slz M.cw : Int) ≤ (M.rn : Int) ∧ M.rn ≤ 16384 from by
    have := slt_in hk (show k < (lkL (pmS M.ms) M.cs M.cw M.ck M.cd).slots.length by rw [← eL']; exact hi)
    rw [← eL'] at this
    obtain ⟨h1, h2, h3, _⟩ := this
    exact ⟨h1, by omega, by omega⟩)
  have HBB := hide (fun (x0 : Bool) (x1 x2 x3 : Int) (hp : 0 ≤ pcq (pmS M.ms) x1 x2) (hb : 0 ≤ x2) (X : World) (hX : Below V.heap.size V X) => (l7SlotBytes_any M x0 x1 x2 x3 X (HDV.out.below hX) hk (by have := HCS.out; omega) hp hb).mono (fun e w' he => show ∃ g, e = .returned (.slice (some ⟨g, 0, none⟩) (slz M.cw) (slz M.cw)) ∧ BS w' (some ⟨g, 0, none⟩) (slz M.cw) (slz M.cw) (bkb (pmS M.ms) M.cw x1 x2) ∧ Below X.heap.size X w' from by
    obtain ⟨g, h1, h2, h3⟩ := he
    exact ⟨g, h1, h2.bs, h3⟩))
  have HHD := hide (fun (X : World) (hX : Below V.heap.size V X) => l7Holds_any M.la M.ln M.lc M.lz M.md M.bk X (HDV.out.l.below hX))
  have HRB := hide (fun (X : World) (hX : Below V.heap.size V X) => HDV.out.r.below hX)
  have hz2 := (slz_eq w0 w1).2.1
  have hz3 : 1 ≤ slz M.cw := by have := (slz_eq w0 w1).2.2; omega
  rw [hg] at HC HSO HBB HHD y12 HU HQ ⊢
  rw [hgs] at HC HV ⊢
  have HSN := hide (show L.slots.length = M.ln by have := HCS.out; omega)
  have hn0 : ((M.ln : Int) == 0) = false := by simp; omega
  clear cn hg hgs HDV HSV hk eL' hsl hr HEQ
  go_enter Tryz.func196, Tryz.ntmps196
  go_wp2_with (first | rw [← HU.out] | rw [← HV.out])
  clear y1 y12 HU HV
  go_loopw [5, 6, 7] (fun i _ _ wr => ∃ k : Nat, k ≤ M.ln ∧ i = .int .i64 k ∧ (∀ i, i < k → slOk (pmS M.ms) L M.cw M.tn M.rz M.lz i) ∧ Below V.heap.size V wr) (fun i _ _ _ => M.ln - (intOf i).toNat)
  case atStart => exact ⟨0, Nat.zero_le _, rfl, fun i hi => absurd hi (by omega), HRE.out⟩
  case round =>
    obtain ⟨k, hk, rfl, hF, hB⟩ := hrel
    have HBR := hide hB
    obtain ⟨m0, m1, m2, m3, m4, m5, m6, m7, m8, m9, m10, m11, m12, m13, m14⟩ := (HC.out wr hB).1.mc
    by_cases hlt : k < M.ln
    · have hlt' : (k : Int) < (M.ln : Int) := by omega
      have HNO := hide (fun (q : ¬ slOk (pmS M.ms) L M.cw M.tn M.rz M.lz k) => sls_no (cs := M.cs) (show k < M.lz.length by omega) q)
      have HST := hide (fun (q : slOk (pmS M.ms) L M.cw M.tn M.rz M.lz k) => sls_st hF q)
      have HOK := hide (show slOk (pmS M.ms) L M.cw M.tn M.rz M.lz k ↔ slk (pmS M.ms) M.tn (M.lz.getD k zSl) ∧ aln M.lz k ∧ ((M.lz.getD k zSl).1 = true → slb M.rz L M.cw k = bkb (pmS M.ms) M.cw (M.lz.getD k zSl).2.1 (M.lz.getD k zSl).2.2.1) from Iff.rfl)
      have HQK := hide (fun (X : World) (hX : Below V.heap.size V X) => HQ.out X hX k hlt)
      obtain ⟨b1, hb1⟩ := bool_of (slk (pmS M.ms) M.tn (M.lz.getD k zSl) ∧ aln M.lz k)
      have HSO1 := hide (HSO.out k hlt b1 hb1 wr hB)
      obtain ⟨s1, s2, s3⟩ := HSI.out k (by rw [HSN.out]; exact hlt)
      have s4 := HSC.out wr hB k (by rw [HSN.out]; exact hlt)
      have HS4 := hide (fun (X : World) (hX : Below V.heap.size V X) => HSC.out X hX k (by rw [HSN.out]; exact hlt))
      generalize M.lz.getD k zSl = x at *
      obtain ⟨x0, x1, x2, x3⟩ := x
      dsimp only at HOK HQK
      have HNA := hide (fun (e : b1 = false) => HNO.out (fun q => by have := hb1.2 ⟨(HOK.out.1 q).1, (HOK.out.1 q).2.1⟩; rw [e] at this; cases this))
      have HB1 := hide hb1
      obtain ⟨A, hA⟩ : ∃ A : Nat, L.slots.getD k 0 = 65536 + (A : Int) := ⟨(L.slots.getD k 0 - 65536).toNat, by omega⟩
      have HSBD := hide (show slb M.rz L M.cw k = (M.rz.drop A).take (slz M.cw) from by unfold slb; rw [hA, show (65536 + (A : Int) - 65536).toNat = A by omega])
      rw [hA] at s2 s4 HS4
      clear hb1 hB hF HQ HSO HSC HSI HRE s4 s1 hA
      go_wp2_with fail
      refine HSO1.out.mono ?_
      rintro e X1 ⟨rfl, hb⟩
      have HX1 := hide (HBR.out.trans (hb.mono HBR.out.size))
      clear hb HSO1 m0 m1 m2 m3 m4 m5 m6 m7 m8 m9 m10 m11 m12 m13 m14
      cases b1 with
      | false =>
        have HN := hide (show ¬ (slsOk (pmS M.ms) L M.cs M.cw M.tn M.rz M.lz ∧ (M.cs = 0 ∨ M.bk = -1 ∨ hld M.lz M.md M.bk ≠ -1)) from fun q => HNA.out (by simp) q.1)
        go_wp2
        go_ret
        exact yn_f HN.out (HB.out.trans (HX1.out.mono HB.out.size))
      | true =>
        obtain ⟨g', f', hg', q0, q1, q2, q3⟩ := HQK.out X1 HX1.out
        simp at hg'
        obtain ⟨rfl, rfl⟩ := hg'
        obtain ⟨m0, m1, m2, m3, m4, m5, m6, m7, m8, m9, m10, m11, m12, m13, m14⟩ := (HC.out X1 HX1.out).1.mc
        cases x0 with
        | false =>
          have HN := hide (HST.out (HOK.out.2 ⟨(HB1.out.1 rfl).1, (HB1.out.1 rfl).2, fun q => by cases q⟩))
          clear HNA HNO HST HOK HB1
          go_wp2
          go_roundw
          case rel => exact ⟨k + 1, by omega, by go_num, HN.out, HX1.out⟩
          case measure => simp [intOf]; omega
        | true =>
          obtain ⟨p2, pq, _⟩ := slk_t.1 (HB1.out.1 rfl).1
          have HBB1 := hide (HBB.out true x1 x2 x3 pq p2)
          have HS := hide (fun (X : World) (hX : Below V.heap.size V X) => show Blk X w.heap.size #[.slice M.ma M.mn M.mc, .int .i64 M.cs, .int .i64 M.cw, .int .i64 M.ck, .int .i64 M.cd, .int .i64 M.pc, .slice M.ka M.kn M.kc, .slice M.fa M.fn M.fc, .slice M.ra M.rn M.rc, .slice M.oa M.on M.oc, .int .i64 M.md, .int .i64 M.bk, .slice (some ⟨g, f, none⟩) M.ln M.lc, .slice M.ha M.hn M.hc, .int .i64 M.tn] 54 ∧ X.cell? ⟨g, f + k * 4, none⟩ = some (.bool true) ∧ X.cell? ⟨g, f + k * 4 + 1, none⟩ = some (.int .i64 x1) ∧ X.cell? ⟨g, f + k * 4 + 2, none⟩ = some (.int .i64 x2) ∧ X.cell? ⟨g, f + k * 4 + 3, none⟩ = some (.int .i64 x3) from by
            obtain ⟨g', f', hg', r0, r1, r2, r3⟩ := HQK.out X hX
            simp at hg'
            obtain ⟨rfl, rfl⟩ := hg'
            exact ⟨(HC.out X hX).1, r0, r1, r2, r3⟩)
          have HNT := hide (fun (e : slb M.rz L M.cw k = bkb (pmS M.ms) M.cw x1 x2) => HST.out (HOK.out.2 ⟨(HB1.out.1 rfl).1, (HB1.out.1 rfl).2, fun _ => e⟩))
          have HNF := hide (fun (e : ¬ slb M.rz L M.cw k = bkb (pmS M.ms) M.cw x1 x2) => show ¬ (slsOk (pmS M.ms) L M.cs M.cw M.tn M.rz M.lz ∧ (M.cs = 0 ∨ M.bk = -1 ∨ hld M.lz M.md M.bk ≠ -1)) from fun q => HNO.out (fun r => e ((HOK.out.1 r).2.2 rfl)) q.1)
          clear HNA HNO HST HOK HB1 HBB p2 pq HQK
          go_wp2_with fail
          clear m0 m1 m2 m3 m4 m5 m6 m7 m8 m9 m10 m11 m12 m13 m14 q0 q1 q2 q3
          refine wp_region_held_drew (S := (fun X => Blk X w.heap.size #[.slice M.ma M.mn M.mc, .int .i64 M.cs, .int .i64 M.cw, .int .i64 M.ck, .int .i64 M.cd, .int .i64 M.pc, .slice M.ka M.kn M.kc, .slice M.fa M.fn M.fc, .slice M.ra M.rn M.rc, .slice M.oa M.on M.oc, .int .i64 M.md, .int .i64 M.bk, .slice (some ⟨g, f, none⟩) M.ln M.lc, .slice M.ha M.hn M.hc, .int .i64 M.tn] 54 ∧ X.cell? ⟨g, f + k * 4, none⟩ = some (.bool true) ∧ X.cell? ⟨g, f + k * 4 + 1, none⟩ = some (.int .i64 x1) ∧ X.cell? ⟨g, f + k * 4 + 2, none⟩ = some (.int .i64 x2) ∧ X.cell? ⟨g, f + k * 4 + 3, none⟩ = some (.int .i64 x3))) (by kernel_rfl) ?_ (fun hHeld => ?_)
          · exact HS.out _ HX1.out.drew
          refine wpAnyH_take (i := 0) rfl (by kernel_rfl) (by kernel_rfl) (by kernel_rfl) (fun _ _ _ h => h) (Or.inl ⟨by rfl, fun w hSw => ld_mn hSw.1 rfl⟩) (by assumption) ?_
          try simp only [List.getElem_toArray, List.getElem_cons_succ, List.getElem_cons_zero, Act.put, List.setIfInBounds_toArray, List.set_cons_zero, List.set_cons_succ]
          refine wpAnyH_take (i := 1) (v := ?_) rfl (by kernel_rfl) (by kernel_rfl) (by kernel_rfl) (fun _ _ _ h => h) (Or.inl ⟨by rfl, ?_⟩) (by assumption) ?_
          rotate_left
          · (intro w hSw; (try dsimp only at hSw); go_simp; try with_reducible rfl)
          try simp only [List.getElem_toArray, List.getElem_cons_succ, List.getElem_cons_zero, Act.put, List.setIfInBounds_toArray, List.set_cons_zero, List.set_cons_succ]
          refine wpAnyH_take (i := 2) rfl (by kernel_rfl) (by kernel_rfl) (by kernel_rfl) (fun _ _ _ h => h) (Or.inl ⟨by rfl, fun w hSw => ld_ss (hSw.1.cell 12) rfl⟩) (by assumption) ?_
          try simp only [List.getElem_toArray, List.getElem_cons_succ, List.getElem_cons_zero, Act.put, List.setIfInBounds_toArray, List.set_cons_zero, List.set_cons_succ]
          refine wpAnyH_take (i := 3) (v := ?_) rfl (by kernel_rfl) (by kernel_rfl) (by kernel_rfl) (fun _ _ _ h => h) (Or.inl ⟨by rfl, ?_⟩) (by assumption) ?_
          rotate_left
          · (intro w hSw; (try dsimp only at hSw); go_simp; try with_reducible rfl)
          try simp only [List.getElem_toArray, List.getElem_cons_succ, List.getElem_cons_zero, Act.put, List.setIfInBounds_toArray, List.set_cons_zero, List.set_cons_succ]
          refine wpAnyH_take (i := 4) (v := ?_) rfl (by kernel_rfl) (by kernel_rfl) (by kernel_rfl) (fun _ _ _ h => h) (Or.inl ⟨by rfl, ?_⟩) (by assumption) ?_
          rotate_left
          · (intro w hSw; (try dsimp only at hSw); go_simp; try with_reducible rfl)
          try simp only [List.getElem_toArray, List.getElem_cons_succ, List.getElem_cons_zero, Act.put, List.setIfInBounds_toArray, List.set_cons_zero, List.set_cons_succ]
          refine wpAnyH_take (i := 5) rfl (by kernel_rfl) (by kernel_rfl) (by kernel_rfl) (fun _ _ _ h => h) (Or.inl ⟨by rfl, fun w hSw => ld_s4 hSw.2.1 hSw.2.2.1 hSw.2.2.2.1 hSw.2.2.2.2 rfl⟩) (by assumption) ?_
          try simp only [List.getElem_toArray, List.getElem_cons_succ, List.getElem_cons_zero, Act.put, List.setIfInBounds_toArray, List.set_cons_zero, List.set_cons_succ]
          refine wpAnyH_ready (rs := [6]) (by kernel_rfl) (by simp) (AllReadyH.cons rfl (fun K hK => ?_) AllReadyH.nil)
          go_simp
          refine (HBB1.out _ HX1.out.drew).mono ?_
          rintro e X2 ⟨bg, rfl, hs, hb⟩
          have HX2 := hide (HX1.out.drew.trans (hb.mono HX1.out.drew.size))
          have HBS := hide hs
          clear hs hb
          try go_wp2_with fail
          refine hK.out _ _ ?_ (fun hHeld => ?_)
          · exact HS.out _ HX2.out
          clear hK K
          try simp only [List.getElem_toArray, List.getElem_cons_succ, List.getElem_cons_zero, Act.put, List.setIfInBounds_toArray, List.set_cons_zero, List.set_cons_succ]
          refine wpAnyH_take (i := 7) (v := ?_) rfl (by kernel_rfl) (by kernel_rfl) (by kernel_rfl) (fun _ _ _ h => h) (Or.inl ⟨by rfl, ?_⟩) (by assumption) ?_
          rotate_left
          · (intro w hSw; (try dsimp only at hSw); go_simp; try with_reducible rfl)
          try simp only [List.getElem_toArray, List.getElem_cons_succ, List.getElem_cons_zero, Act.put, List.setIfInBounds_toArray, List.set_cons_zero, List.set_cons_succ]
          refine wpAnyH_done (by kernel_rfl) ?_ _
          clear hHeld HS
          have y8 : X2.cell? ⟨w.heap.size, 8, none⟩ = some (.slice M.ra M.rn M.rc) := (HC.out X2 HX2.out).1.cell 8
          have z2 : X2.cell? ⟨U.heap.size, 2, none⟩ = some (.slice (some ⟨gs, os, none⟩) L.slots.length c2) := (HC.out X2 HX2.out).2.cell 2
          have s4 := HS4.out X2 HX2.out
          have hkl : (k : Int) < (L.slots.length : Int) := by rw [HSN.out]; exact hlt'
          generalize slz M.cw = sz at *
          obtain ⟨rb, ro, hra⟩ : ∃ rb ro, M.ra = some ⟨rb, ro, none⟩ := by
            obtain ⟨rb, ro, he, _⟩ := (HRB.out X2 HX2.out).2.2.2.1 (by omega)
            exact ⟨rb, ro, he⟩
          obtain ⟨E, hE⟩ : ∃ E : Nat, E = A + sz := ⟨_, rfl⟩
          have HLB := hide (show Calls Tryz.prog 176 #[.slice (some ⟨rb, ro + A, none⟩) (E - A) (M.rc - A), .slice (some ⟨bg, 0, none⟩) sz sz] X2 (fun e w' => e = .returned (.bool (decide (slb M.rz L M.cw k = bkb (pmS M.ms) M.cw x1 x2))) ∧ Below X2.heap.size X2 w') from by
            have h1 := HRB.out X2 HX2.out
            rw [hra] at h1
            have h2 := (h1.drop A (by omega)).take sz (by omega)
            rw [show E - A = sz by omega, HSBD.out]
            exact l7Bytes_any _ _ _ _ _ _ _ _ X2 h2 HBS.out)
          have hwA : IntKind.i64.wrap (65536 + (A : Int) - 65536) = (A : Int) := by rw [IntWalk.i64_left, IntWalk.wrap64_in _ (by omega)]; omega
          have hwA2 : IntKind.i64.wrap (A : Int) = (A : Int) := by rw [IntWalk.i64_left, IntWalk.wrap64_in _ (by omega)]
          have hwE : IntKind.i64.wrap ((A : Int) + (sz : Int)) = (E : Int) := by rw [IntWalk.i64_left, IntWalk.wrap64_in _ (by omega)]; omega
          have hwE2 : (A : Int) + (sz : Int) = (E : Int) := by omega
          have g0 : (0 : Int) ≤ (A : Int) := by omega
          have g1 : (A : Int) ≤ (E : Int) := by omega
          have g2 : (E : Int) ≤ (M.rc : Int) := by omega
          have g3 : (A : Int) < (M.rc : Int) := by omega
          have g4 : A ≤ E := by omega
          have g5 : ¬ (M.rc = A) := by omega
          have g6 : A < M.rc := by omega
          rw [hra] at y8
          have HW2 := hide hwE2
          clear hE hra HRB HSBD HBS HS4 s2 s3 hwE2
          by_cases c3 : slb M.rz L M.cw k = bkb (pmS M.ms) M.cw x1 x2
          · rw [decide_eq_true c3] at HLB
            have HN := hide (HNT.out c3)
            clear HNT HNF c3
            go_wp2_with fail
            refine HLB.out.mono ?_
            rintro e X3 ⟨rfl, hb⟩
            have HX3 := hide (HX2.out.trans (hb.mono HX2.out.size))
            clear hb HLB
            go_wp2
            go_roundw
            case rel => exact ⟨k + 1, by omega, by go_num, HN.out, HX3.out⟩
            case measure => simp [intOf]; omega
          · rw [decide_eq_false c3] at HLB
            have HN := hide (HNF.out c3)
            clear HNT HNF c3
            go_wp2_with fail
            refine HLB.out.mono ?_
            rintro e X3 ⟨rfl, hb⟩
            have HX3 := hide (HX2.out.trans (hb.mono HX2.out.size))
            clear hb HLB
            go_wp2
            go_ret
            exact yn_f HN.out (HB.out.trans (HX3.out.mono HB.out.size))
    · have HY := hide (show slsOk (pmS M.ms) L M.cs M.cw M.tn M.rz M.lz from ⟨by have := HCS.out; omega, fun i hi => hF i (by omega)⟩)
      have HH := hide (HHD.out wr hB)
      have hhr := hld_range M.lz M.md M.bk
      have HCZ := hide (show ¬ M.cs = 0 from fun e => by have := HCS.out; simp at hn0; omega)
      clear hB hF HC HSC HSI HSO HBB HRB HHD HQ
      by_cases cb : M.bk = -1
      · have cb' : (M.bk == -1) = true := by rw [cb]; rfl
        have HP := hide (show slsOk (pmS M.ms) L M.cs M.cw M.tn M.rz M.lz ∧ (M.cs = 0 ∨ M.bk = -1 ∨ hld M.lz M.md M.bk ≠ -1) from ⟨HY.out, .inr (.inl cb)⟩)
        clear cb hhr HH
        go_wp2
        go_ret
        exact yn_t HP.out (HB.out.trans (HBR.out.mono HB.out.size))
      · have cb' : (M.bk == -1) = false := by simp [cb]
        have HP := hide (show (slsOk (pmS M.ms) L M.cs M.cw M.tn M.rz M.lz ∧ (M.cs = 0 ∨ M.bk = -1 ∨ hld M.lz M.md M.bk ≠ -1)) ↔ 0 ≤ hld M.lz M.md M.bk from ⟨fun q => by rcases q.2 with e | e | e; exact absurd e HCZ.out; exact absurd e cb; omega, fun q => ⟨HY.out, .inr (.inr (by omega))⟩⟩)
        clear cb hhr
        generalize hld M.lz M.md M.bk = r at *
        go_wp2_with fail
        refine HH.out.mono ?_
        rintro e X1 ⟨rfl, hb⟩
        have HX1 := hide (HBR.out.trans (hb.mono HBR.out.size))
        clear hb HH
        go_wp2
        go_ret
        exact yn_d HP.out.symm (HB.out.trans (HX1.out.mono HB.out.size))
end Go.Proofs.YtngdgogjlpjjpaeGreat
