import Derived.Test.YtngdgogjlpjjpadGreatK16
import Derived.Test.YtngdgogjlpjjpadGreatK17
namespace Go.Proofs.YtngdgogjlpjjpadGreat
open Go.RowKit
set_option linter.unusedVariables false
set_option linter.unusedSimpArgs false
set_option maxRecDepth 100000

theorem pput_eq (op d a i v u : Int) (g : Nat) (pc : Int) (rg : List Int) (s1 s2 s3 s4 : Value) (w : World) (hu : u = v) (h : Pr w g pc rg s1 s2 s3 s4) (d0 : 0 ≤ d) (d1 : d ≤ 7) (v0 : 0 ≤ v) (v1 : v ≤ 4294967295) :
    Calls Tryz.prog 226 #[.pointer (some ⟨g, 0, none⟩), .agg #[.int .i64 op, .int .i64 d, .int .i64 a, .int .i64 i], .int .u32 u] w fun e w' => e = .returned (.agg #[.int .i64 0, .int .i64 0]) ∧ Pr w' g ((pc + 4) % 4294967296) (rg.set d.toNat v) s1 s2 s3 s4 ∧ Turn (fun j => j = g) w w' := by
  subst hu
  exact pput_any op d a i u g pc rg s1 s2 s3 s4 w h d0 d1 v0 v1
set_option maxHeartbeats 1000000 in
theorem op2_any (d a i : Int) (g base : Nat) (pc : Int) (rg : List Int) (a1 a2 a3 : Option Addr) (n1 c1 n2 c2 n3 c3 : Nat) (x1 x2 x3 : List Int) (ra : Option Addr) (rn rc : Nat) (rs : List Rg) (w : World) (h : Pm w g base pc rg a1 a2 a3 n1 c1 n2 c2 n3 c3 x1 x2 x3 ra rn rc rs) (d0 : 0 ≤ d) (d1 : d ≤ 7) (a0 : 0 ≤ a) (a7 : a ≤ 7) (i0 : 0 ≤ i) (i1 : i ≤ 65535) :
    Calls Tryz.prog 225 #[.pointer (some ⟨g, 0, none⟩), .agg #[.int .i64 2, .int .i64 d, .int .i64 a, .int .i64 i]] w (OpPost w g base a1 a2 n1 c1 n2 c2 ra rn rc rs ⟨0, 0, (pc + 4) % 4294967296, rg.set d.toNat (alu 2 i (rg.getD d.toNat 0) (rg.getD a.toNat 0)), x1, x2, x3⟩) := by
  have hB0 : Below w.heap.size w ((w.alloc (.cells #[.int .i64 2, .int .i64 d, .int .i64 a, .int .i64 i] 124)).alloc (.cells #[.int .i64 0, .int .i64 0] 141)) := ((Below.refl _ _).alloc (Nat.le_refl _) _).alloc (by simp) _
  have kb := (Blk.new w #[.int .i64 2, .int .i64 d, .int .i64 a, .int .i64 i] 124).alloc (.cells #[.int .i64 0, .int .i64 0] 141)
  have ke := Blk.new (w.alloc (.cells #[.int .i64 2, .int .i64 d, .int .i64 a, .int .i64 i] 124)) #[.int .i64 0, .int .i64 0] 141
  simp only [World.size_alloc] at ke
  have H0 := h.below hB0
  have hlt := h.pr.blk.lt
  have HBB := hide h.bb
  have hG : w.heap.size + 1 ≠ g := by omega
  have hbG : base ≤ w.heap.size + 1 := by have := h.bb; omega
  have T0 : Turn (fun j => base ≤ j) w _ := turn_below hB0
  have K0 : Keeps g w _ := keeps_below hB0
  obtain ⟨z0, z1⟩ := h.pr.range d.toNat
  obtain ⟨y0, y1⟩ := h.pr.range a.toNat
  have HD := hide (fun w h => pd_any 2 d a i g pc rg (.slice a1 n1 c1) (.slice a2 n2 c2) (.slice a3 n3 c3) (.slice ra rn rc) w h d0 d1)
  have HA := hide (fun w h => pa_any 2 d a i g pc rg (.slice a1 n1 c1) (.slice a2 n2 c2) (.slice a3 n3 c3) (.slice ra rn rc) w h a0 a7)
  have HN := hide (fun w h => pnear_any 2 d a i g pc rg (.slice a1 n1 c1) (.slice a2 n2 c2) (.slice a3 n3 c3) (.slice ra rn rc) w h a0 a7 i0 i1)
  generalize rg.getD d.toNat 0 = z at *
  generalize rg.getD a.toNat 0 = y at *
  obtain ⟨v, hv⟩ : ∃ v, v = alu 2 i z y := ⟨_, rfl⟩
  rw [← hv]
  have hv' : v = i := hv
  clear hv
  have hvr : 0 ≤ v ∧ v ≤ 4294967295 := by omega
  have EQ := hide (show ∀ u : Int, u = i → u = v from fun u hu => by rw [hu, hv'])
  have HP := hide (fun (w : World) (u : Int) (hu : u = v) h => pput_eq 2 d a i v u g pc rg (.slice a1 n1 c1) (.slice a2 n2 c2) (.slice a3 n3 c3) (.slice ra rn rc) w hu h d0 d1 hvr.1 hvr.2)
  have HV := hide hv'
  clear hv'
  clear h hB0
  obtain ⟨k1, k2, k3, k4, k5⟩ := kb.four'
  obtain ⟨e1, e2, e3⟩ := ke.two'
  go_enter Tryz.func225, Tryz.ntmps225
  go_wp2_with fail
  refine (HP.out _ _ (EQ.out _ rfl) (by exact ⟨H0.pr.blk, H0.pr.len, H0.pr.pcw, H0.pr.rgw⟩)).mono ?_
  rintro e w9 ⟨rfl, p9, t9⟩
  have H9 := H0.turn t9 p9
  have ke9 := turn_blk t9 ke (fun e => hG e)
  have T9 := T0.trans (turn_base t9 HBB.out)
  obtain ⟨hp, y0', y1'⟩ := op_done H9 ke9 hG hbG T9 (K0.trans (keeps_turn t9)) (by omega) 0 0
  have HX := hide hp
  obtain ⟨e1, e2, e3⟩ := ke9.two'
  clear hp H9 T9 ke9
  go_wp2
  exact bodyPost_ret (v := .agg #[.int .i64 0, .int .i64 0]) (by simp [results, Tryz.results225, go_sem, y0', y1']) rfl HX.out

set_option maxHeartbeats 1000000 in
theorem op4_any (d a i : Int) (g base : Nat) (pc : Int) (rg : List Int) (a1 a2 a3 : Option Addr) (n1 c1 n2 c2 n3 c3 : Nat) (x1 x2 x3 : List Int) (ra : Option Addr) (rn rc : Nat) (rs : List Rg) (w : World) (h : Pm w g base pc rg a1 a2 a3 n1 c1 n2 c2 n3 c3 x1 x2 x3 ra rn rc rs) (d0 : 0 ≤ d) (d1 : d ≤ 7) (a0 : 0 ≤ a) (a7 : a ≤ 7) (i0 : 0 ≤ i) (i1 : i ≤ 65535) :
    Calls Tryz.prog 229 #[.pointer (some ⟨g, 0, none⟩), .agg #[.int .i64 4, .int .i64 d, .int .i64 a, .int .i64 i]] w (OpPost w g base a1 a2 n1 c1 n2 c2 ra rn rc rs ⟨0, 0, (pc + 4) % 4294967296, rg.set d.toNat (alu 4 i (rg.getD d.toNat 0) (rg.getD a.toNat 0)), x1, x2, x3⟩) := by
  have hB0 : Below w.heap.size w ((w.alloc (.cells #[.int .i64 4, .int .i64 d, .int .i64 a, .int .i64 i] 124)).alloc (.cells #[.int .i64 0, .int .i64 0] 141)) := ((Below.refl _ _).alloc (Nat.le_refl _) _).alloc (by simp) _
  have kb := (Blk.new w #[.int .i64 4, .int .i64 d, .int .i64 a, .int .i64 i] 124).alloc (.cells #[.int .i64 0, .int .i64 0] 141)
  have ke := Blk.new (w.alloc (.cells #[.int .i64 4, .int .i64 d, .int .i64 a, .int .i64 i] 124)) #[.int .i64 0, .int .i64 0] 141
  simp only [World.size_alloc] at ke
  have H0 := h.below hB0
  have hlt := h.pr.blk.lt
  have HBB := hide h.bb
  have hG : w.heap.size + 1 ≠ g := by omega
  have hbG : base ≤ w.heap.size + 1 := by have := h.bb; omega
  have T0 : Turn (fun j => base ≤ j) w _ := turn_below hB0
  have K0 : Keeps g w _ := keeps_below hB0
  obtain ⟨z0, z1⟩ := h.pr.range d.toNat
  obtain ⟨y0, y1⟩ := h.pr.range a.toNat
  have HD := hide (fun w h => pd_any 4 d a i g pc rg (.slice a1 n1 c1) (.slice a2 n2 c2) (.slice a3 n3 c3) (.slice ra rn rc) w h d0 d1)
  have HA := hide (fun w h => pa_any 4 d a i g pc rg (.slice a1 n1 c1) (.slice a2 n2 c2) (.slice a3 n3 c3) (.slice ra rn rc) w h a0 a7)
  have HN := hide (fun w h => pnear_any 4 d a i g pc rg (.slice a1 n1 c1) (.slice a2 n2 c2) (.slice a3 n3 c3) (.slice ra rn rc) w h a0 a7 i0 i1)
  generalize rg.getD d.toNat 0 = z at *
  generalize rg.getD a.toNat 0 = y at *
  obtain ⟨v, hv⟩ : ∃ v, v = alu 4 i z y := ⟨_, rfl⟩
  rw [← hv]
  have hv' : v = y := hv
  clear hv
  have hvr : 0 ≤ v ∧ v ≤ 4294967295 := by omega
  have EQ := hide (show ∀ u : Int, u = y → u = v from fun u hu => by rw [hu, hv'])
  have HP := hide (fun (w : World) (u : Int) (hu : u = v) h => pput_eq 4 d a i v u g pc rg (.slice a1 n1 c1) (.slice a2 n2 c2) (.slice a3 n3 c3) (.slice ra rn rc) w hu h d0 d1 hvr.1 hvr.2)
  have HV := hide hv'
  clear hv'
  clear h hB0
  obtain ⟨k1, k2, k3, k4, k5⟩ := kb.four'
  obtain ⟨e1, e2, e3⟩ := ke.two'
  go_enter Tryz.func229, Tryz.ntmps229
  go_wp2_with fail
  go_region_held3 (fun w' => w'.cell? ⟨w.heap.size, 0, none⟩ = some (.int .i64 4) ∧ w'.cell? ⟨w.heap.size, 1, none⟩ = some (.int .i64 d) ∧ w'.cell? ⟨w.heap.size, 2, none⟩ = some (.int .i64 a) ∧ w'.cell? ⟨w.heap.size, 3, none⟩ = some (.int .i64 i)) (go_keep)
    (first
      | (go_at_call 230; refine (HA.out _ (by exact ⟨H0.pr.blk, H0.pr.len, H0.pr.pcw, H0.pr.rgw⟩)).mono ?_; rintro e w1 ⟨rfl, hb1⟩; (try replace hb1 := undrew hb1); have H1 := H0.below hb1; have B1 := hb1; obtain ⟨k1, k2, k3, k4, k5⟩ := (kb.below B1).four'; obtain ⟨e1, e2, e3⟩ := (ke.below B1).two')
      | (go_at_call 226; refine (HP.out _ _ (by first | exact EQ.out _ rfl | exact EQ.out _ (by simp)) (by exact ⟨H1.pr.blk, H1.pr.len, H1.pr.pcw, H1.pr.rgw⟩)).mono ?_; rintro e w9 ⟨rfl, p9, t9⟩; have H9 := H1.turn t9 p9; have ke9 := turn_blk t9 (ke.below B1) (fun e => hG e); have T9 := (T0.trans (turn_below B1)).trans (turn_base t9 HBB.out); obtain ⟨hp, y0', y1'⟩ := op_done H9 ke9 hG hbG T9 ((K0.trans (keeps_below B1)).trans (keeps_turn t9)) (by omega) 0 0; have HX := hide hp; obtain ⟨e1, e2, e3⟩ := ke9.two'; clear hp H9 T9 ke9; obtain ⟨k1, k2, k3, k4, k5⟩ := (turn_blk t9 (kb.below B1) (fun e => by have e' : w.heap.size = g := e; omega)).four'))
  all_goals
    go_wp2
    exact bodyPost_ret (v := .agg #[.int .i64 0, .int .i64 0]) (by simp [results, Tryz.results229, go_sem, y0', y1']) rfl HX.out

set_option maxHeartbeats 1000000 in
theorem op5_any (d a i : Int) (g base : Nat) (pc : Int) (rg : List Int) (a1 a2 a3 : Option Addr) (n1 c1 n2 c2 n3 c3 : Nat) (x1 x2 x3 : List Int) (ra : Option Addr) (rn rc : Nat) (rs : List Rg) (w : World) (h : Pm w g base pc rg a1 a2 a3 n1 c1 n2 c2 n3 c3 x1 x2 x3 ra rn rc rs) (d0 : 0 ≤ d) (d1 : d ≤ 7) (a0 : 0 ≤ a) (a7 : a ≤ 7) (i0 : 0 ≤ i) (i1 : i ≤ 65535) :
    Calls Tryz.prog 231 #[.pointer (some ⟨g, 0, none⟩), .agg #[.int .i64 5, .int .i64 d, .int .i64 a, .int .i64 i]] w (OpPost w g base a1 a2 n1 c1 n2 c2 ra rn rc rs ⟨0, 0, (pc + 4) % 4294967296, rg.set d.toNat (alu 5 i (rg.getD d.toNat 0) (rg.getD a.toNat 0)), x1, x2, x3⟩) := by
  have hB0 : Below w.heap.size w ((w.alloc (.cells #[.int .i64 5, .int .i64 d, .int .i64 a, .int .i64 i] 124)).alloc (.cells #[.int .i64 0, .int .i64 0] 141)) := ((Below.refl _ _).alloc (Nat.le_refl _) _).alloc (by simp) _
  have kb := (Blk.new w #[.int .i64 5, .int .i64 d, .int .i64 a, .int .i64 i] 124).alloc (.cells #[.int .i64 0, .int .i64 0] 141)
  have ke := Blk.new (w.alloc (.cells #[.int .i64 5, .int .i64 d, .int .i64 a, .int .i64 i] 124)) #[.int .i64 0, .int .i64 0] 141
  simp only [World.size_alloc] at ke
  have H0 := h.below hB0
  have hlt := h.pr.blk.lt
  have HBB := hide h.bb
  have hG : w.heap.size + 1 ≠ g := by omega
  have hbG : base ≤ w.heap.size + 1 := by have := h.bb; omega
  have T0 : Turn (fun j => base ≤ j) w _ := turn_below hB0
  have K0 : Keeps g w _ := keeps_below hB0
  obtain ⟨z0, z1⟩ := h.pr.range d.toNat
  obtain ⟨y0, y1⟩ := h.pr.range a.toNat
  have HD := hide (fun w h => pd_any 5 d a i g pc rg (.slice a1 n1 c1) (.slice a2 n2 c2) (.slice a3 n3 c3) (.slice ra rn rc) w h d0 d1)
  have HA := hide (fun w h => pa_any 5 d a i g pc rg (.slice a1 n1 c1) (.slice a2 n2 c2) (.slice a3 n3 c3) (.slice ra rn rc) w h a0 a7)
  have HN := hide (fun w h => pnear_any 5 d a i g pc rg (.slice a1 n1 c1) (.slice a2 n2 c2) (.slice a3 n3 c3) (.slice ra rn rc) w h a0 a7 i0 i1)
  generalize rg.getD d.toNat 0 = z at *
  generalize rg.getD a.toNat 0 = y at *
  obtain ⟨v, hv⟩ : ∃ v, v = alu 5 i z y := ⟨_, rfl⟩
  rw [← hv]
  have hv' : v = (z + y) % 4294967296 := hv
  clear hv
  have hvr : 0 ≤ v ∧ v ≤ 4294967295 := by omega
  have EQ := hide (show ∀ u : Int, u = IntKind.u32.wrap (z + y) → u = v from fun u hu => by rw [hu, hv', IntKind.wrap_u32])
  have HP := hide (fun (w : World) (u : Int) (hu : u = v) h => pput_eq 5 d a i v u g pc rg (.slice a1 n1 c1) (.slice a2 n2 c2) (.slice a3 n3 c3) (.slice ra rn rc) w hu h d0 d1 hvr.1 hvr.2)
  have HV := hide hv'
  clear hv'
  clear h hB0
  obtain ⟨k1, k2, k3, k4, k5⟩ := kb.four'
  obtain ⟨e1, e2, e3⟩ := ke.two'
  go_enter Tryz.func231, Tryz.ntmps231
  go_wp2_with fail
  go_region_held3 (fun w' => w'.cell? ⟨w.heap.size, 0, none⟩ = some (.int .i64 5) ∧ w'.cell? ⟨w.heap.size, 1, none⟩ = some (.int .i64 d) ∧ w'.cell? ⟨w.heap.size, 2, none⟩ = some (.int .i64 a) ∧ w'.cell? ⟨w.heap.size, 3, none⟩ = some (.int .i64 i)) (go_keep)
    (first
      | (go_at_call 228; refine (HD.out _ (by exact ⟨H1.pr.blk, H1.pr.len, H1.pr.pcw, H1.pr.rgw⟩)).mono ?_; rintro e w2 ⟨rfl, hb2⟩; (try replace hb2 := undrew hb2); have H2 := H1.below hb2; have B2 := B1.trans (hb2.mono B1.size); obtain ⟨k1, k2, k3, k4, k5⟩ := (kb.below B2).four'; obtain ⟨e1, e2, e3⟩ := (ke.below B2).two')
      | (go_at_call 228; refine (HD.out _ (by exact ⟨H0.pr.blk, H0.pr.len, H0.pr.pcw, H0.pr.rgw⟩)).mono ?_; rintro e w1 ⟨rfl, hb1⟩; (try replace hb1 := undrew hb1); have H1 := H0.below hb1; have B1 := hb1; obtain ⟨k1, k2, k3, k4, k5⟩ := (kb.below B1).four'; obtain ⟨e1, e2, e3⟩ := (ke.below B1).two')
      | (go_at_call 230; refine (HA.out _ (by exact ⟨H1.pr.blk, H1.pr.len, H1.pr.pcw, H1.pr.rgw⟩)).mono ?_; rintro e w2 ⟨rfl, hb2⟩; (try replace hb2 := undrew hb2); have H2 := H1.below hb2; have B2 := B1.trans (hb2.mono B1.size); obtain ⟨k1, k2, k3, k4, k5⟩ := (kb.below B2).four'; obtain ⟨e1, e2, e3⟩ := (ke.below B2).two')
      | (go_at_call 230; refine (HA.out _ (by exact ⟨H0.pr.blk, H0.pr.len, H0.pr.pcw, H0.pr.rgw⟩)).mono ?_; rintro e w1 ⟨rfl, hb1⟩; (try replace hb1 := undrew hb1); have H1 := H0.below hb1; have B1 := hb1; obtain ⟨k1, k2, k3, k4, k5⟩ := (kb.below B1).four'; obtain ⟨e1, e2, e3⟩ := (ke.below B1).two')
      | (go_at_call 226; refine (HP.out _ _ (by first | exact EQ.out _ rfl | exact EQ.out _ (by simp)) (by exact ⟨H2.pr.blk, H2.pr.len, H2.pr.pcw, H2.pr.rgw⟩)).mono ?_; rintro e w9 ⟨rfl, p9, t9⟩; have H9 := H2.turn t9 p9; have ke9 := turn_blk t9 (ke.below B2) (fun e => hG e); have T9 := (T0.trans (turn_below B2)).trans (turn_base t9 HBB.out); obtain ⟨hp, y0', y1'⟩ := op_done H9 ke9 hG hbG T9 ((K0.trans (keeps_below B2)).trans (keeps_turn t9)) (by omega) 0 0; have HX := hide hp; obtain ⟨e1, e2, e3⟩ := ke9.two'; clear hp H9 T9 ke9; obtain ⟨k1, k2, k3, k4, k5⟩ := (turn_blk t9 (kb.below B2) (fun e => by have e' : w.heap.size = g := e; omega)).four'))
  all_goals
    go_wp2
    exact bodyPost_ret (v := .agg #[.int .i64 0, .int .i64 0]) (by simp [results, Tryz.results231, go_sem, y0', y1']) rfl HX.out
end Go.Proofs.YtngdgogjlpjjpadGreat
