import Derived.Test.YtaillnegkfagfacGreatJ10
import Derived.Test.YtaillnegkfagfacGreatJ03
namespace Go.Proofs.YtaillnegkfagfacGreat
open Go.RowKit
set_option linter.unusedVariables false
set_option linter.unusedSimpArgs false
set_option maxRecDepth 100000

/-- WHAT A STORE DOES. -/
def sto (pc : Int) (rg : List Int) (n1 n2 n3 : Nat) (x1 x2 x3 : List Int) (rs : List Rg) (rn : Nat) (d a i s : Int) : Res :=
  if alw rs rn (atOf rg a i) s 2 = true then
    if (wrm n1 n2 n3 x1 x2 x3 (atOf rg a i) s (rg.getD d.toNat 0)).2.2.2 = 0 then ⟨0, 0, (pc + 4) % 4294967296, rg, (wrm n1 n2 n3 x1 x2 x3 (atOf rg a i) s (rg.getD d.toNat 0)).1, (wrm n1 n2 n3 x1 x2 x3 (atOf rg a i) s (rg.getD d.toNat 0)).2.1, (wrm n1 n2 n3 x1 x2 x3 (atOf rg a i) s (rg.getD d.toNat 0)).2.2.1⟩
    else ⟨5, (wrm n1 n2 n3 x1 x2 x3 (atOf rg a i) s (rg.getD d.toNat 0)).2.2.2, pc, rg, (wrm n1 n2 n3 x1 x2 x3 (atOf rg a i) s (rg.getD d.toNat 0)).1, (wrm n1 n2 n3 x1 x2 x3 (atOf rg a i) s (rg.getD d.toNat 0)).2.1, (wrm n1 n2 n3 x1 x2 x3 (atOf rg a i) s (rg.getD d.toNat 0)).2.2.1⟩
  else ⟨5, 5, pc, rg, x1, x2, x3⟩
theorem pr_set11 {w : World} {g : Nat} {pc : Int} {rg : List Int} {s1 s2 s3 s4 v : Value} (hl : rg.length = 8) (h : Blk w g ((#[Value.int .u32 pc] ++ (rg.map (Value.int .u32)).toArray ++ #[s1, s2, s3, s4]).setIfInBounds (9 + 2) v) 71) :
    Blk w g (#[Value.int .u32 pc] ++ (rg.map (Value.int .u32)).toArray ++ #[s1, s2, v, s4]) 71 := by
  have e : (#[Value.int .u32 pc] ++ (rg.map (Value.int .u32)).toArray ++ #[s1, s2, s3, s4]).setIfInBounds (9 + 2) v = #[Value.int .u32 pc] ++ (rg.map (Value.int .u32)).toArray ++ #[s1, s2, v, s4] := by
    apply Array.toList_inj.1
    rw [Array.toList_setIfInBounds]
    simp only [Array.toList_append]
    rw [List.set_append_right _ _ (by simp; omega)]
    simp [hl]
  rw [e] at h
  exact h
/-- writeInto through the processor -/
theorem pm_write {w : World} {g base : Nat} {pc : Int} {rg : List Int} {a1 a2 a3 : Option Addr} {n1 c1 n2 c2 n3 c3 : Nat} {x1 x2 x3 : List Int} {ra : Option Addr} {rn rc : Nat} {rs : List Rg} (h : Pm w g base pc rg a1 a2 a3 n1 c1 n2 c2 n3 c3 x1 x2 x3 ra rn rc rs)
    (p s v : Int) (hv : 0 ≤ v ∧ v ≤ 4294967295) (hp : p ≤ 4294967295) :
    Calls Tryz.prog 102 #[.pointer (some ⟨g, 9, none⟩), .int .i64 p, .int .i64 s, .int .i64 v] w fun e w' => e = .returned (.int .i64 (wrm n1 n2 n3 x1 x2 x3 p s v).2.2.2) ∧
      ∃ a3' m3 d3, Pm w' g base pc rg a1 a2 a3' n1 c1 n2 c2 m3 d3 (wrm n1 n2 n3 x1 x2 x3 p s v).1 (wrm n1 n2 n3 x1 x2 x3 p s v).2.1 (wrm n1 n2 n3 x1 x2 x3 p s v).2.2.1 ra rn rc rs ∧ Turn (fun j => base ≤ j) w w' ∧ Keeps g w w' := by
  obtain ⟨m1, m2, m3, m4⟩ := h.pr.mem
  have hlt := h.pr.blk.lt
  have hbk := h.pr.blk
  have hl := h.pr.len
  have hbase : base ≤ w.heap.size := by have := h.bb; omega
  obtain ⟨cs, hcs⟩ : ∃ cs, cs = #[Value.int .u32 pc] ++ (rg.map (Value.int .u32)).toArray ++ #[.slice a1 n1 c1, .slice a2 n2 c2, .slice a3 n3 c3, .slice ra rn rc] := ⟨_, rfl⟩
  rw [← hcs] at hbk
  have c9 : cs[9]? = some (.slice a1 n1 c1) := by rw [← hbk.cell]; exact m1
  have c10 : cs[9 + 1]? = some (.slice a2 n2 c2) := by rw [← hbk.cell]; exact m2
  have c11 : cs[9 + 2]? = some (.slice a3 n3 c3) := by rw [← hbk.cell]; exact m3
  refine (writeInto_any a1 a2 a3 n1 c1 n2 c2 n3 c3 g 9 base cs 71 x1 x2 x3 p s v w hbk (by decide) c9 c10 c11 h.own h.far hbase (by omega) (by omega)).mono ?_
  rintro e w' ⟨a3', k3, d3, rfl, hk, ho, hf, ht⟩
  subst hcs
  have hb := h.bb
  have tb : Turn (fun j => base ≤ j) w w' := ht.mono (fun k e => by
    rcases e with e | e | e
    · show base ≤ k; omega
    · exact (h.own.2.1.lt k e).1
    · exact (h.own.2.2.1.lt k e).1)
  refine ⟨rfl, a3', k3, d3, ⟨⟨pr_set11 h.pr.len hk, h.pr.len, h.pr.pcw, h.pr.rgw⟩, ho, ?_, h.bb, ?_, h.low⟩, tb, fun G u t hG hne htt => ?_⟩
  · rintro v (rfl | rfl | rfl)
    · exact h.far _ (.inl rfl)
    · exact h.far _ (.inr (.inl rfl))
    · exact hf
  · exact turn_rs tb h.rs (fun k hk b off ha e => by have h1 := h.low b off ha; have hk' : base ≤ k := hk; omega)
  · refine turn_blk ht hG ?_
    rintro (e | e | e)
    · exact hne e
    · exact ob_ne h.own.2.1 hG htt e
    · exact ob_ne h.own.2.2.1 hG htt e

set_option maxHeartbeats 1000000 in
theorem pstore_any (op d a i s : Int) (g base : Nat) (pc : Int) (rg : List Int) (a1 a2 a3 : Option Addr) (n1 c1 n2 c2 n3 c3 : Nat) (x1 x2 x3 : List Int) (ra : Option Addr) (rn rc : Nat) (rs : List Rg) (w : World) (h : Pm w g base pc rg a1 a2 a3 n1 c1 n2 c2 n3 c3 x1 x2 x3 ra rn rc rs) (d0 : 0 ≤ d) (d1 : d ≤ 7) (a0 : 0 ≤ a) (a7 : a ≤ 7) (i0 : 0 ≤ i) (i1 : i ≤ 65535) :
    Calls Tryz.prog 82 #[.pointer (some ⟨g, 0, none⟩), .agg #[.int .i64 op, .int .i64 d, .int .i64 a, .int .i64 i], .int .i64 s] w (OpPost w g base a1 a2 n1 c1 n2 c2 ra rn rc rs (sto pc rg n1 n2 n3 x1 x2 x3 rs rn d a i s)) := by
  have hB0 : Below w.heap.size w ((w.alloc (.cells #[.int .i64 op, .int .i64 d, .int .i64 a, .int .i64 i] 53)).alloc (.cells #[.int .i64 0, .int .i64 0] 65)) := ((Below.refl _ _).alloc (Nat.le_refl _) _).alloc (by simp) _
  have kb := (Blk.new w #[.int .i64 op, .int .i64 d, .int .i64 a, .int .i64 i] 53).alloc (.cells #[.int .i64 0, .int .i64 0] 65)
  have ke := Blk.new (w.alloc (.cells #[.int .i64 op, .int .i64 d, .int .i64 a, .int .i64 i] 53)) #[.int .i64 0, .int .i64 0] 65
  simp only [World.size_alloc] at ke
  have h0 := h.below hB0
  have hlt := h.pr.blk.lt
  have HN := hide (fun w h => pnear_any op d a i g pc rg (.slice a1 n1 c1) (.slice a2 n2 c2) (.slice a3 n3 c3) (.slice ra rn rc) w h a0 a7 i0 i1)
  have HD := hide (fun w h => pd_any op d a i g pc rg (.slice a1 n1 c1) (.slice a2 n2 c2) (.slice a3 n3 c3) (.slice ra rn rc) w h d0 d1)
  have hv := h.pr.range d.toNat
  obtain ⟨z0, z1⟩ := atOf_range rg a i
  obtain ⟨r, hr0⟩ : ∃ r, r = sto pc rg n1 n2 n3 x1 x2 x3 rs rn d a i s := ⟨_, rfl⟩
  rw [← hr0]
  unfold sto at hr0
  rw [show (rg.getD a.toNat 0 + wide i) % 4294967296 = atOf rg a i from rfl] at HN
  generalize atOf rg a i = z at *
  generalize rg.getD d.toNat 0 = v at *
  have HA := hide (fun w h => iAllowed_any ra rn rc rs z s 2 w h ⟨by omega, by omega⟩)
  have HW := hide (fun w (h : Pm w g base pc rg a1 a2 a3 n1 c1 n2 c2 n3 c3 x1 x2 x3 ra rn rc rs) => pm_write h z s v hv (by omega))
  obtain ⟨v0, v1⟩ := hv
  have HV := hide (show IntKind.i64.wrap v = v by rw [IntKind.wrap_i64]; omega)
  generalize alw rs rn z s 2 = A at *
  generalize wrm n1 n2 n3 x1 x2 x3 z s v = Q at *
  obtain ⟨q1, q2, q3, f⟩ := Q
  dsimp only at HW hr0
  have HR0 := hide hr0
  clear hr0
  have HX := hide (fun (w : World) (a3 : Option Addr) (n3 c3 : Nat) (h : Pr w g pc rg (.slice a1 n1 c1) (.slice a2 n2 c2) (.slice a3 n3 c3) (.slice ra rn rc)) => pnext_any g pc rg _ _ _ _ w h)
  have HBB := hide h.bb
  go_enter Tryz.func82, Tryz.ntmps82
  go_wp2_with fail
  refine (HN.out _ h0.pr).mono ?_
  rintro e w1 ⟨rfl, hb1⟩
  have H1 := h0.below hb1
  have kb1 := kb.below hb1
  have ke1 := ke.below hb1
  have hB1 := hB0.trans (hb1.mono (by simp; omega))
  obtain ⟨m1, m2, m3, m4⟩ := H1.pr.mem
  clear hb1 h0 kb ke hB0 h
  go_wp2_with fail
  refine (HA.out _ H1.rs).mono ?_
  rintro e w2 ⟨rfl, hb2⟩
  have H2 := H1.below hb2
  have kb2 := kb1.below hb2
  have ke2 := ke1.below hb2
  have hB2 := hB1.trans (hb2.mono hB1.size)
  clear hb2 m1 m2 m3 m4 H1 kb1 ke1 hB1
  obtain ⟨e1, e2, e3⟩ := ke2.two'
  have hG : w.heap.size + 1 ≠ g := by omega
  have hbG : base ≤ w.heap.size + 1 := by have := HBB.out; omega
  have T2 : Turn (fun j => base ≤ j) w w2 := turn_below hB2
  cases A
  · have hr := HR0.out
    rw [if_neg (by simp)] at hr
    subst hr
    obtain ⟨hp, y0, y1⟩ := op_done H2 ke2 hG hbG T2 (keeps_below hB2) (by omega) 5 5
    have HX := hide hp
    clear hp H2 ke2 kb2 T2
    go_wp2
    exact bodyPost_ret (v := .agg #[.int .i64 5, .int .i64 5]) (by simp [results, Tryz.results82, go_sem, y0, y1]) rfl HX.out
  · obtain ⟨k1, k2, k3, k4, k5⟩ := kb2.four'
    obtain ⟨m1, m2, m3, m4⟩ := H2.pr.mem
    go_wp2_with fail
    go_region_held3 (fun w' => w'.cell? ⟨w.heap.size, 0, none⟩ = some (.int .i64 op) ∧ w'.cell? ⟨w.heap.size, 1, none⟩ = some (.int .i64 d) ∧ w'.cell? ⟨w.heap.size, 2, none⟩ = some (.int .i64 a) ∧ w'.cell? ⟨w.heap.size, 3, none⟩ = some (.int .i64 i)) (go_keep)
      (first
        | (go_at_call 64; refine (HD.out _ ?_).mono ?_; exact ⟨H2.pr.blk, H2.pr.len, H2.pr.pcw, H2.pr.rgw⟩; rintro e w3 ⟨rfl, hb3⟩; replace hb3 := undrew hb3; obtain ⟨k1, k2, k3, k4, k5⟩ := (kb2.below hb3).four')
        | (go_at_call 102; rw [HV.out]; refine (HW.out _ (H2.below hb3)).mono ?_; rintro e w4 ⟨rfl, b3, l3, d3, H4, t4, k4⟩; obtain ⟨k1, k2, k3, k4', k5⟩ := (k4 _ _ _ (kb2.below hb3) (by omega) (by decide)).four'))
    have T4 : Turn (fun j => base ≤ j) w w4 := T2.trans ((turn_below hb3).trans t4)
    have ke4 := k4 _ _ _ (ke2.below hb3) hG (by decide)
    have K4 : Keeps g w w4 := (keeps_below (hB2.trans (hb3.mono hB2.size))).trans k4
    clear k1 k2 k3 k4 k4' k5 m1 m2 m3 m4 e1 e2 e3 hb3 t4 T2 kb2 ke2 hB2 H2
    obtain ⟨e1, e2, e3⟩ := ke4.two'
    by_cases hf : f = 0
    · subst hf
      have hr := HR0.out
      simp only [reduceIte] at hr
      subst hr
      go_wp2_with fail
      refine (HX.out _ _ _ _ H4.pr).mono ?_
      rintro e w5 ⟨rfl, rfl⟩
      have hc := H4.pr.pc
      have hfz := H4.pr.blk.frozen 0
      obtain ⟨u, hu⟩ : ∃ u, u = (pc + 4) % 4294967296 := ⟨_, rfl⟩
      have u0 : 0 ≤ u ∧ u ≤ 4294967295 := by omega
      rw [← hu]
      have HU := hide hu
      clear hu
      have H5 := H4.turn (turn_setg w4 g 0 (.int .u32 u)) (H4.pr.setpc u u0)
      have ke5 := ke4.other ⟨g, 0, none⟩ (.int .u32 u) hG
      have T5 := T4.trans (turn_base (turn_setg w4 g 0 (.int .u32 u)) HBB.out)
      obtain ⟨hp, y0, y1⟩ := op_done H5 ke5 hG hbG T5 (K4.trans (keeps_turn (turn_setg w4 g 0 (.int .u32 u)))) (by omega) 0 0
      have HY := hide hp
      obtain ⟨e4, e5, e6⟩ := ke5.two'
      clear hp H4 H5 T4 T5 ke4 ke5
      go_wp2
      exact bodyPost_ret (v := .agg #[.int .i64 0, .int .i64 0]) (by simp [results, Tryz.results82, go_sem, y0, y1]) rfl (by rw [← HU.out]; exact HY.out)
    · have hf' : (f != 0) = true := by simpa using hf
      have hr := HR0.out
      simp only [reduceIte, hf] at hr
      subst hr
      obtain ⟨hp, y0, y1⟩ := op_done H4 ke4 hG hbG T4 K4 (by omega) 5 f
      have HY := hide hp
      clear hp H4 ke4 T4
      go_wp2
      exact bodyPost_ret (v := .agg #[.int .i64 5, .int .i64 f]) (by simp [results, Tryz.results82, go_sem, y0, y1]) rfl HY.out
end Go.Proofs.YtaillnegkfagfacGreat

namespace Go.Proofs.YtaillnegkfagfacGreat
open Go.RowKit
set_option linter.unusedVariables false
set_option linter.unusedSimpArgs false
set_option maxRecDepth 100000

/-- WHAT fetch GIVES: the fault, or 0 and the word. -/
def fet (pc : Int) (n1 n2 n3 : Nat) (x1 x2 : List Int) (rs : List Rg) (rn : Nat) : Int :=
  if alw rs rn pc 4 3 = true then
    if (rd n1 n2 n3 x1 x2 pc 4).2 = 0 then if dOk (rd n1 n2 n3 x1 x2 pc 4).1 = true then 0 else 6
    else (rd n1 n2 n3 x1 x2 pc 4).2
  else 5
def fin (f x : Int) : Value := if f = 0 then .agg #[.int .i64 (x / 67108864), .int .i64 (x / 8388608 % 8), .int .i64 (x / 1048576 % 8), .int .i64 (x % 65536)] else .agg #[.int .i64 0, .int .i64 0, .int .i64 0, .int .i64 0]

set_option maxHeartbeats 1000000 in
theorem pfetch_any (g base : Nat) (pc : Int) (rg : List Int) (a1 a2 a3 : Option Addr) (n1 c1 n2 c2 n3 c3 : Nat) (x1 x2 x3 : List Int) (ra : Option Addr) (rn rc : Nat) (rs : List Rg) (w : World) (h : Pm w g base pc rg a1 a2 a3 n1 c1 n2 c2 n3 c3 x1 x2 x3 ra rn rc rs) :
    Calls Tryz.prog 51 #[.pointer (some ⟨g, 0, none⟩)] w fun e w' => e = .returned (.tuple #[fin (fet pc n1 n2 n3 x1 x2 rs rn) (rd n1 n2 n3 x1 x2 pc 4).1, .int .i64 (fet pc n1 n2 n3 x1 x2 rs rn)]) ∧ Below w.heap.size w w' := by
  have hB0 : Below w.heap.size w (w.alloc (.cells #[.int .i64 0, .int .i64 0, .int .i64 0, .int .i64 0] 53)) := (Below.refl _ _).alloc (Nat.le_refl _) _
  have kr := Blk.new w #[.int .i64 0, .int .i64 0, .int .i64 0, .int .i64 0] 53
  have h0 := h.below hB0
  obtain ⟨p0, p1⟩ := h.pr.pcw
  have hr := rd_range n1 n2 n3 x1 x2 pc 4 h.own.1.2 h.own.2.1.2
  obtain ⟨f, hf0⟩ : ∃ f, f = fet pc n1 n2 n3 x1 x2 rs rn := ⟨_, rfl⟩
  rw [← hf0]
  unfold fet at hf0
  have HA := hide (fun w h => iAllowed_any ra rn rc rs pc 4 3 w h ⟨by omega, by omega⟩)
  have HR := hide (fun w h1 h2 => iRead_any a1 a2 a3 n1 c1 n2 c2 n3 c3 x1 x2 x3 pc 4 w h1 h2 (by omega))
  generalize alw rs rn pc 4 3 = A at *
  generalize rd n1 n2 n3 x1 x2 pc 4 = R at *
  obtain ⟨x, q⟩ := R
  dsimp only at hr HR hf0 ⊢
  have HF := hide hf0
  clear hf0
  obtain ⟨v, hv⟩ : ∃ v, v = fin f x := ⟨_, rfl⟩
  rw [← hv]
  have HV := hide hv
  clear hv
  have HD := hide (fun w => iDecode_any x w)
  have HPC := hide (show IntKind.i64.wrap pc = pc by rw [IntKind.wrap_i64]; omega)
  have hc := h0.pr.pc
  obtain ⟨m1, m2, m3, m4⟩ := h0.pr.mem
  go_enter Tryz.func51, Tryz.ntmps51
  go_wp2_with fail
  go_region_held3 (fun w' => w'.cell? ⟨g, 0, none⟩ = some (.int .u32 pc) ∧ w'.cell? ⟨g, 12, none⟩ = some (.slice ra rn rc)) (go_keep)
    (first
      | (go_at_call 56; rw [HPC.out]; refine (HA.out _ (by exact h0.rs)).mono ?_; rintro e w1 ⟨rfl, hb1⟩; replace hb1 := undrew hb1; have H1 := h0.below hb1; have hc1 := H1.pr.pc; obtain ⟨o1, o2, o3, o4⟩ := H1.pr.mem))
  have kr1 := kr.below hb1
  have hB1 := hB0.trans (hb1.mono (by simp))
  clear hb1 h0 kr hB0 h hc m1 m2 m3 m4
  obtain ⟨k1, k2, k3, k4, k5⟩ := kr1.four'
  cases A
  · have hf := HF.out
    rw [if_neg (by simp)] at hf
    subst hf
    have HX := hide (ins_set kr1 0 0 0 0)
    have HB := hide (ins_below (Nat.le_refl _) hB1 0 0 0 0)
    obtain ⟨y1, y2, y3, y4, y5⟩ := HX.out.four'
    obtain rfl : v = .agg #[.int .i64 0, .int .i64 0, .int .i64 0, .int .i64 0] := HV.out
    clear kr1 hB1 H1
    go_wp2
    exact bodyPost_ret (v := .tuple #[.agg #[.int .i64 0, .int .i64 0, .int .i64 0, .int .i64 0], .int .i64 5]) (by simp [results, Tryz.results51, go_sem, y1, y2, y3, y4]) rfl ⟨rfl, HB.out⟩
  · go_wp2_with fail
    go_region_held3 (fun w' => w'.cell? ⟨g, 0, none⟩ = some (.int .u32 pc) ∧ w'.cell? ⟨g, 9, none⟩ = some (.slice a1 n1 c1) ∧ w'.cell? ⟨g, 10, none⟩ = some (.slice a2 n2 c2) ∧ w'.cell? ⟨g, 11, none⟩ = some (.slice a3 n3 c3)) (go_keep)
      (first
        | (go_at_call 57; rw [HPC.out]; refine (HR.out _ (by exact H1.own.1.bs) (by exact H1.own.2.1.bs)).mono ?_; rintro e w2 ⟨rfl, hb2⟩; replace hb2 := undrew hb2; have H2 := H1.below hb2; have hc2 := H2.pr.pc; obtain ⟨j1, j2, j3, j4⟩ := H2.pr.mem))
    have kr2 := kr1.below hb2
    have hB2 := hB1.trans (hb2.mono hB1.size)
    clear hb2 H1 kr1 hB1 hc1 o1 o2 o3 o4 k1 k2 k3 k4 k5
    obtain ⟨k1, k2, k3, k4, k5⟩ := kr2.four'
    by_cases hq : q = 0
    · subst hq
      have hf := HF.out
      simp only [reduceIte] at hf
      clear HF
      go_wp2_with fail
      refine (HD.out _).mono ?_
      intro e w3 hd
      unfold DecPost at hd
      cases hok : dOk x
      · rw [hok, if_neg (by simp)] at hd
        rw [hok, if_neg (by simp)] at hf
        subst hf
        obtain ⟨rfl, hb3⟩ := hd
        have kr3 := kr2.below hb3
        have hB3 := hB2.trans (hb3.mono hB2.size)
        have HX := hide ((ins_set kr3 0 0 0 0).alloc (.cells #[.int .i64 0, .int .i64 0, .int .i64 0, .int .i64 0] 53))
        have HB := hide ((ins_below (Nat.le_refl _) hB3 0 0 0 0).alloc (by simp only [size_setCell]; exact hB3.size) (.cells #[.int .i64 0, .int .i64 0, .int .i64 0, .int .i64 0] 53))
        obtain ⟨y1, y2, y3, y4, y5⟩ := HX.out.four'
        clear k1 k2 k3 k4 k5 hc2 j1 j2 j3 j4
        have hlt3 := kr3.lt
        obtain ⟨k1, k2, k3, k4, k5⟩ := kr3.four'
        obtain rfl : v = .agg #[.int .i64 0, .int .i64 0, .int .i64 0, .int .i64 0] := HV.out
        clear kr3 hB3 kr2 hB2 H2 hb3
        go_wp2
        exact bodyPost_ret (v := .tuple #[.agg #[.int .i64 0, .int .i64 0, .int .i64 0, .int .i64 0], .int .i64 6]) (by simp [results, Tryz.results51, go_sem, y1, y2, y3, y4]) rfl ⟨rfl, HB.out⟩
      · rw [hok, if_pos rfl] at hd
        rw [hok, if_pos rfl] at hf
        subst hf
        obtain ⟨rfl, hb3⟩ := hd
        have kr3 := kr2.below hb3
        have hB3 := hB2.trans (hb3.mono hB2.size)
        have hv : v = .agg #[.int .i64 (x / 67108864), .int .i64 (x / 8388608 % 8), .int .i64 (x / 1048576 % 8), .int .i64 (x % 65536)] := HV.out
        clear HV
        generalize x / 67108864 = o at *
        generalize x / 8388608 % 8 = d at *
        generalize x / 1048576 % 8 = a at *
        generalize x % 65536 = i at *
        subst hv
        have HX := hide ((ins_set kr3 o d a i).alloc (.cells #[.int .i64 o, .int .i64 d, .int .i64 a, .int .i64 i] 53))
        have HB := hide ((ins_below (Nat.le_refl _) hB3 o d a i).alloc (by simp only [size_setCell]; exact hB3.size) (.cells #[.int .i64 o, .int .i64 d, .int .i64 a, .int .i64 i] 53))
        obtain ⟨y1, y2, y3, y4, y5⟩ := HX.out.four'
        clear k1 k2 k3 k4 k5 hc2 j1 j2 j3 j4
        have hlt3 := kr3.lt
        obtain ⟨k1, k2, k3, k4, k5⟩ := kr3.four'
        clear kr3 hB3 kr2 hB2 H2 hb3
        go_wp2
        exact bodyPost_ret (v := .tuple #[.agg #[.int .i64 o, .int .i64 d, .int .i64 a, .int .i64 i], .int .i64 0]) (by simp [results, Tryz.results51, go_sem, y1, y2, y3, y4]) rfl ⟨rfl, HB.out⟩
    · have hq' : (q != 0) = true := by simpa using hq
      have hf := HF.out
      simp only [reduceIte, hq] at hf
      subst hf
      have HX := hide (ins_set kr2 0 0 0 0)
      have HB := hide (ins_below (Nat.le_refl _) hB2 0 0 0 0)
      obtain ⟨y1, y2, y3, y4, y5⟩ := HX.out.four'
      obtain rfl : v = .agg #[.int .i64 0, .int .i64 0, .int .i64 0, .int .i64 0] := by rw [HV.out, fin, if_neg hq]
      clear kr2 hB2 H2
      go_wp2
      exact bodyPost_ret (v := .tuple #[.agg #[.int .i64 0, .int .i64 0, .int .i64 0, .int .i64 0], .int .i64 f]) (by simp [results, Tryz.results51, go_sem, y1, y2, y3, y4]) rfl ⟨rfl, HB.out⟩
end Go.Proofs.YtaillnegkfagfacGreat
