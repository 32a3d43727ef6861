import Derived.Test.YtngdgogjlpjjpadGreatK23
namespace Go.Proofs.YtngdgogjlpjjpadGreat
open Go.RowKit
set_option linter.unusedVariables false
set_option linter.unusedSimpArgs false
set_option maxRecDepth 100000

set_option maxHeartbeats 1000000 in
theorem step10_any (d a i : Int) (g base : Nat) (pc : Int) (rg : List Int) (a1 a2 a3 : Option Addr) (n1 c1 n2 c2 n3 c3 : Nat) (x1 x2 x3 : List Int) (ra : Option Addr) (rn rc : Nat) (rs : List Rg) (w : World) (h : Pm w g base pc rg a1 a2 a3 n1 c1 n2 c2 n3 c3 x1 x2 x3 ra rn rc rs) (hf : fet pc n1 n2 n3 x1 x2 rs rn = 0)
    (hx : (rd n1 n2 n3 x1 x2 pc 4).1 / 67108864 = 10 ∧ (rd n1 n2 n3 x1 x2 pc 4).1 / 8388608 % 8 = d ∧ (rd n1 n2 n3 x1 x2 pc 4).1 / 1048576 % 8 = a ∧ (rd n1 n2 n3 x1 x2 pc 4).1 % 65536 = i) :
    Calls Tryz.prog 98 #[.pointer (some ⟨g, 0, none⟩)] w (OpPost w g base a1 a2 n1 c1 n2 c2 ra rn rc rs (opr 10 d a i pc rg n1 n2 n3 x1 x2 x3 rs rn)) := by
  have hB0 : Below w.heap.size w (w.alloc (.cells #[.int .i64 0, .int .i64 0] 141)) := (Below.refl _ _).alloc (Nat.le_refl _) _
  have ke := Blk.new w #[.int .i64 0, .int .i64 0] 141
  have H0 := h.below hB0
  have hlt := h.pr.blk.lt
  have HBB := hide h.bb
  have hG : w.heap.size ≠ g := by omega
  have hbG : base ≤ w.heap.size := by have := h.bb; omega
  have T0 : Turn (fun j => base ≤ j) w _ := turn_below hB0
  have K0 : Keeps g w _ := keeps_below hB0
  have HF := hide (fun w h => pfetch_any g base pc rg a1 a2 a3 n1 c1 n2 c2 n3 c3 x1 x2 x3 ra rn rc rs w h)
  rw [hf, fin, if_pos rfl, hx.1, hx.2.1, hx.2.2.1, hx.2.2.2] at HF
  have HO := hide (fun w (h : Pm w g base pc rg a1 a2 a3 n1 c1 n2 c2 n3 c3 x1 x2 x3 ra rn rc rs) => opr10_any d a i g base pc rg a1 a2 a3 n1 c1 n2 c2 n3 c3 x1 x2 x3 ra rn rc rs w h (by omega) (by omega) (by omega) (by omega) (by omega) (by omega))
  clear hx hf
  generalize opr 10 d a i pc rg n1 n2 n3 x1 x2 x3 rs rn = r at *
  obtain ⟨did, num, pc', rg', y1, y2, y3⟩ := r
  clear h hB0
  go_enter Tryz.func98, Tryz.ntmps98
  go_wp2_with fail
  refine (HF.out _ H0).mono ?_
  rintro e w1 ⟨rfl, hb1⟩
  have hB1 : Below (w.alloc (.cells #[.int .i64 0, .int .i64 0] 141)).heap.size (w.alloc (.cells #[.int .i64 0, .int .i64 0] 141)) (w1.alloc (.cells #[.int .i64 10, .int .i64 d, .int .i64 a, .int .i64 i] 124)) := hb1.alloc hb1.size _
  have kb := Blk.new w1 #[.int .i64 10, .int .i64 d, .int .i64 a, .int .i64 i] 124
  have H1 := H0.below hB1
  have ke1 := ke.below hB1
  have T1 := T0.trans (turn_below hB1)
  have K1 := K0.trans (keeps_below hB1)
  have hs1 : w.heap.size < w1.heap.size := by have := hb1.size; simp at this; omega
  have hne1 : w1.heap.size ≠ w.heap.size := by omega
  have hne2 : w.heap.size ≠ w1.heap.size := by omega
  clear hb1 hB1 ke H0 T0 K0
  go_wp2_with fail
  obtain ⟨k1, k2, k3, k4, k5⟩ := kb.four'
  obtain ⟨e1, e2, e3⟩ := ke1.two'
  go_region_held3 (fun w' => w'.cell? ⟨w1.heap.size, 0, none⟩ = some (.int .i64 10) ∧ w'.cell? ⟨w1.heap.size, 1, none⟩ = some (.int .i64 d) ∧ w'.cell? ⟨w1.heap.size, 2, none⟩ = some (.int .i64 a) ∧ w'.cell? ⟨w1.heap.size, 3, none⟩ = some (.int .i64 i)) (go_keep)
    (first
      | (go_at_call 171; refine (operationOf_10 _).mono ?_; rintro e w2 ⟨rfl, hb2⟩; (try replace hb2 := undrew hb2); obtain ⟨k1, k2, k3, k4, k5⟩ := (kb.below hb2).four'; have H2 := H1.below hb2)
      | (go_at_call 237; refine (HO.out _ H2).mono ?_; rintro e w9 ⟨b3, m3, d3, rfl, H9, t9, q9⟩; dsimp only at H9; have ke9 := q9 _ _ _ (ke1.below hb2) hG (by decide); obtain ⟨hp, y0', y1'⟩ := op_done H9 ke9 hG hbG ((T1.trans (turn_below hb2)).trans t9) ((K1.trans (keeps_below hb2)).trans q9) (Nat.le_refl _) did num; have HX := hide hp; obtain ⟨e1, e2, e3⟩ := ke9.two'; obtain ⟨k1, k2, k3, k4, k5⟩ := (q9 _ _ _ (kb.below hb2) (by omega) (by decide)).four'; clear hp H9 ke9))
  all_goals
    go_wp2
    exact bodyPost_ret (v := .agg #[.int .i64 did, .int .i64 num]) (by simp [results, Tryz.results98, go_sem, y0', y1']) rfl HX.out

set_option maxHeartbeats 1000000 in
theorem step11_any (d a i : Int) (g base : Nat) (pc : Int) (rg : List Int) (a1 a2 a3 : Option Addr) (n1 c1 n2 c2 n3 c3 : Nat) (x1 x2 x3 : List Int) (ra : Option Addr) (rn rc : Nat) (rs : List Rg) (w : World) (h : Pm w g base pc rg a1 a2 a3 n1 c1 n2 c2 n3 c3 x1 x2 x3 ra rn rc rs) (hf : fet pc n1 n2 n3 x1 x2 rs rn = 0)
    (hx : (rd n1 n2 n3 x1 x2 pc 4).1 / 67108864 = 11 ∧ (rd n1 n2 n3 x1 x2 pc 4).1 / 8388608 % 8 = d ∧ (rd n1 n2 n3 x1 x2 pc 4).1 / 1048576 % 8 = a ∧ (rd n1 n2 n3 x1 x2 pc 4).1 % 65536 = i) :
    Calls Tryz.prog 98 #[.pointer (some ⟨g, 0, none⟩)] w (OpPost w g base a1 a2 n1 c1 n2 c2 ra rn rc rs (opr 11 d a i pc rg n1 n2 n3 x1 x2 x3 rs rn)) := by
  have hB0 : Below w.heap.size w (w.alloc (.cells #[.int .i64 0, .int .i64 0] 141)) := (Below.refl _ _).alloc (Nat.le_refl _) _
  have ke := Blk.new w #[.int .i64 0, .int .i64 0] 141
  have H0 := h.below hB0
  have hlt := h.pr.blk.lt
  have HBB := hide h.bb
  have hG : w.heap.size ≠ g := by omega
  have hbG : base ≤ w.heap.size := by have := h.bb; omega
  have T0 : Turn (fun j => base ≤ j) w _ := turn_below hB0
  have K0 : Keeps g w _ := keeps_below hB0
  have HF := hide (fun w h => pfetch_any g base pc rg a1 a2 a3 n1 c1 n2 c2 n3 c3 x1 x2 x3 ra rn rc rs w h)
  rw [hf, fin, if_pos rfl, hx.1, hx.2.1, hx.2.2.1, hx.2.2.2] at HF
  have HO := hide (fun w (h : Pm w g base pc rg a1 a2 a3 n1 c1 n2 c2 n3 c3 x1 x2 x3 ra rn rc rs) => opr11_any d a i g base pc rg a1 a2 a3 n1 c1 n2 c2 n3 c3 x1 x2 x3 ra rn rc rs w h (by omega) (by omega) (by omega) (by omega) (by omega) (by omega))
  clear hx hf
  generalize opr 11 d a i pc rg n1 n2 n3 x1 x2 x3 rs rn = r at *
  obtain ⟨did, num, pc', rg', y1, y2, y3⟩ := r
  clear h hB0
  go_enter Tryz.func98, Tryz.ntmps98
  go_wp2_with fail
  refine (HF.out _ H0).mono ?_
  rintro e w1 ⟨rfl, hb1⟩
  have hB1 : Below (w.alloc (.cells #[.int .i64 0, .int .i64 0] 141)).heap.size (w.alloc (.cells #[.int .i64 0, .int .i64 0] 141)) (w1.alloc (.cells #[.int .i64 11, .int .i64 d, .int .i64 a, .int .i64 i] 124)) := hb1.alloc hb1.size _
  have kb := Blk.new w1 #[.int .i64 11, .int .i64 d, .int .i64 a, .int .i64 i] 124
  have H1 := H0.below hB1
  have ke1 := ke.below hB1
  have T1 := T0.trans (turn_below hB1)
  have K1 := K0.trans (keeps_below hB1)
  have hs1 : w.heap.size < w1.heap.size := by have := hb1.size; simp at this; omega
  have hne1 : w1.heap.size ≠ w.heap.size := by omega
  have hne2 : w.heap.size ≠ w1.heap.size := by omega
  clear hb1 hB1 ke H0 T0 K0
  go_wp2_with fail
  obtain ⟨k1, k2, k3, k4, k5⟩ := kb.four'
  obtain ⟨e1, e2, e3⟩ := ke1.two'
  go_region_held3 (fun w' => w'.cell? ⟨w1.heap.size, 0, none⟩ = some (.int .i64 11) ∧ w'.cell? ⟨w1.heap.size, 1, none⟩ = some (.int .i64 d) ∧ w'.cell? ⟨w1.heap.size, 2, none⟩ = some (.int .i64 a) ∧ w'.cell? ⟨w1.heap.size, 3, none⟩ = some (.int .i64 i)) (go_keep)
    (first
      | (go_at_call 171; refine (operationOf_11 _).mono ?_; rintro e w2 ⟨rfl, hb2⟩; (try replace hb2 := undrew hb2); obtain ⟨k1, k2, k3, k4, k5⟩ := (kb.below hb2).four'; have H2 := H1.below hb2)
      | (go_at_call 238; refine (HO.out _ H2).mono ?_; rintro e w9 ⟨b3, m3, d3, rfl, H9, t9, q9⟩; dsimp only at H9; have ke9 := q9 _ _ _ (ke1.below hb2) hG (by decide); obtain ⟨hp, y0', y1'⟩ := op_done H9 ke9 hG hbG ((T1.trans (turn_below hb2)).trans t9) ((K1.trans (keeps_below hb2)).trans q9) (Nat.le_refl _) did num; have HX := hide hp; obtain ⟨e1, e2, e3⟩ := ke9.two'; obtain ⟨k1, k2, k3, k4, k5⟩ := (q9 _ _ _ (kb.below hb2) (by omega) (by decide)).four'; clear hp H9 ke9))
  all_goals
    go_wp2
    exact bodyPost_ret (v := .agg #[.int .i64 did, .int .i64 num]) (by simp [results, Tryz.results98, go_sem, y0', y1']) rfl HX.out

set_option maxHeartbeats 1000000 in
theorem step12_any (d a i : Int) (g base : Nat) (pc : Int) (rg : List Int) (a1 a2 a3 : Option Addr) (n1 c1 n2 c2 n3 c3 : Nat) (x1 x2 x3 : List Int) (ra : Option Addr) (rn rc : Nat) (rs : List Rg) (w : World) (h : Pm w g base pc rg a1 a2 a3 n1 c1 n2 c2 n3 c3 x1 x2 x3 ra rn rc rs) (hf : fet pc n1 n2 n3 x1 x2 rs rn = 0)
    (hx : (rd n1 n2 n3 x1 x2 pc 4).1 / 67108864 = 12 ∧ (rd n1 n2 n3 x1 x2 pc 4).1 / 8388608 % 8 = d ∧ (rd n1 n2 n3 x1 x2 pc 4).1 / 1048576 % 8 = a ∧ (rd n1 n2 n3 x1 x2 pc 4).1 % 65536 = i) :
    Calls Tryz.prog 98 #[.pointer (some ⟨g, 0, none⟩)] w (OpPost w g base a1 a2 n1 c1 n2 c2 ra rn rc rs (opr 12 d a i pc rg n1 n2 n3 x1 x2 x3 rs rn)) := by
  have hB0 : Below w.heap.size w (w.alloc (.cells #[.int .i64 0, .int .i64 0] 141)) := (Below.refl _ _).alloc (Nat.le_refl _) _
  have ke := Blk.new w #[.int .i64 0, .int .i64 0] 141
  have H0 := h.below hB0
  have hlt := h.pr.blk.lt
  have HBB := hide h.bb
  have hG : w.heap.size ≠ g := by omega
  have hbG : base ≤ w.heap.size := by have := h.bb; omega
  have T0 : Turn (fun j => base ≤ j) w _ := turn_below hB0
  have K0 : Keeps g w _ := keeps_below hB0
  have HF := hide (fun w h => pfetch_any g base pc rg a1 a2 a3 n1 c1 n2 c2 n3 c3 x1 x2 x3 ra rn rc rs w h)
  rw [hf, fin, if_pos rfl, hx.1, hx.2.1, hx.2.2.1, hx.2.2.2] at HF
  have HO := hide (fun w (h : Pm w g base pc rg a1 a2 a3 n1 c1 n2 c2 n3 c3 x1 x2 x3 ra rn rc rs) => opr12_any d a i g base pc rg a1 a2 a3 n1 c1 n2 c2 n3 c3 x1 x2 x3 ra rn rc rs w h (by omega) (by omega) (by omega) (by omega) (by omega) (by omega))
  clear hx hf
  generalize opr 12 d a i pc rg n1 n2 n3 x1 x2 x3 rs rn = r at *
  obtain ⟨did, num, pc', rg', y1, y2, y3⟩ := r
  clear h hB0
  go_enter Tryz.func98, Tryz.ntmps98
  go_wp2_with fail
  refine (HF.out _ H0).mono ?_
  rintro e w1 ⟨rfl, hb1⟩
  have hB1 : Below (w.alloc (.cells #[.int .i64 0, .int .i64 0] 141)).heap.size (w.alloc (.cells #[.int .i64 0, .int .i64 0] 141)) (w1.alloc (.cells #[.int .i64 12, .int .i64 d, .int .i64 a, .int .i64 i] 124)) := hb1.alloc hb1.size _
  have kb := Blk.new w1 #[.int .i64 12, .int .i64 d, .int .i64 a, .int .i64 i] 124
  have H1 := H0.below hB1
  have ke1 := ke.below hB1
  have T1 := T0.trans (turn_below hB1)
  have K1 := K0.trans (keeps_below hB1)
  have hs1 : w.heap.size < w1.heap.size := by have := hb1.size; simp at this; omega
  have hne1 : w1.heap.size ≠ w.heap.size := by omega
  have hne2 : w.heap.size ≠ w1.heap.size := by omega
  clear hb1 hB1 ke H0 T0 K0
  go_wp2_with fail
  obtain ⟨k1, k2, k3, k4, k5⟩ := kb.four'
  obtain ⟨e1, e2, e3⟩ := ke1.two'
  go_region_held3 (fun w' => w'.cell? ⟨w1.heap.size, 0, none⟩ = some (.int .i64 12) ∧ w'.cell? ⟨w1.heap.size, 1, none⟩ = some (.int .i64 d) ∧ w'.cell? ⟨w1.heap.size, 2, none⟩ = some (.int .i64 a) ∧ w'.cell? ⟨w1.heap.size, 3, none⟩ = some (.int .i64 i)) (go_keep)
    (first
      | (go_at_call 171; refine (operationOf_12 _).mono ?_; rintro e w2 ⟨rfl, hb2⟩; (try replace hb2 := undrew hb2); obtain ⟨k1, k2, k3, k4, k5⟩ := (kb.below hb2).four'; have H2 := H1.below hb2)
      | (go_at_call 239; refine (HO.out _ H2).mono ?_; rintro e w9 ⟨b3, m3, d3, rfl, H9, t9, q9⟩; dsimp only at H9; have ke9 := q9 _ _ _ (ke1.below hb2) hG (by decide); obtain ⟨hp, y0', y1'⟩ := op_done H9 ke9 hG hbG ((T1.trans (turn_below hb2)).trans t9) ((K1.trans (keeps_below hb2)).trans q9) (Nat.le_refl _) did num; have HX := hide hp; obtain ⟨e1, e2, e3⟩ := ke9.two'; obtain ⟨k1, k2, k3, k4, k5⟩ := (q9 _ _ _ (kb.below hb2) (by omega) (by decide)).four'; clear hp H9 ke9))
  all_goals
    go_wp2
    exact bodyPost_ret (v := .agg #[.int .i64 did, .int .i64 num]) (by simp [results, Tryz.results98, go_sem, y0', y1']) rfl HX.out

set_option maxHeartbeats 1000000 in
theorem step13_any (d a i : Int) (g base : Nat) (pc : Int) (rg : List Int) (a1 a2 a3 : Option Addr) (n1 c1 n2 c2 n3 c3 : Nat) (x1 x2 x3 : List Int) (ra : Option Addr) (rn rc : Nat) (rs : List Rg) (w : World) (h : Pm w g base pc rg a1 a2 a3 n1 c1 n2 c2 n3 c3 x1 x2 x3 ra rn rc rs) (hf : fet pc n1 n2 n3 x1 x2 rs rn = 0)
    (hx : (rd n1 n2 n3 x1 x2 pc 4).1 / 67108864 = 13 ∧ (rd n1 n2 n3 x1 x2 pc 4).1 / 8388608 % 8 = d ∧ (rd n1 n2 n3 x1 x2 pc 4).1 / 1048576 % 8 = a ∧ (rd n1 n2 n3 x1 x2 pc 4).1 % 65536 = i) :
    Calls Tryz.prog 98 #[.pointer (some ⟨g, 0, none⟩)] w (OpPost w g base a1 a2 n1 c1 n2 c2 ra rn rc rs (opr 13 d a i pc rg n1 n2 n3 x1 x2 x3 rs rn)) := by
  have hB0 : Below w.heap.size w (w.alloc (.cells #[.int .i64 0, .int .i64 0] 141)) := (Below.refl _ _).alloc (Nat.le_refl _) _
  have ke := Blk.new w #[.int .i64 0, .int .i64 0] 141
  have H0 := h.below hB0
  have hlt := h.pr.blk.lt
  have HBB := hide h.bb
  have hG : w.heap.size ≠ g := by omega
  have hbG : base ≤ w.heap.size := by have := h.bb; omega
  have T0 : Turn (fun j => base ≤ j) w _ := turn_below hB0
  have K0 : Keeps g w _ := keeps_below hB0
  have HF := hide (fun w h => pfetch_any g base pc rg a1 a2 a3 n1 c1 n2 c2 n3 c3 x1 x2 x3 ra rn rc rs w h)
  rw [hf, fin, if_pos rfl, hx.1, hx.2.1, hx.2.2.1, hx.2.2.2] at HF
  have HO := hide (fun w (h : Pm w g base pc rg a1 a2 a3 n1 c1 n2 c2 n3 c3 x1 x2 x3 ra rn rc rs) => opr13_any d a i g base pc rg a1 a2 a3 n1 c1 n2 c2 n3 c3 x1 x2 x3 ra rn rc rs w h (by omega) (by omega) (by omega) (by omega) (by omega) (by omega))
  clear hx hf
  generalize opr 13 d a i pc rg n1 n2 n3 x1 x2 x3 rs rn = r at *
  obtain ⟨did, num, pc', rg', y1, y2, y3⟩ := r
  clear h hB0
  go_enter Tryz.func98, Tryz.ntmps98
  go_wp2_with fail
  refine (HF.out _ H0).mono ?_
  rintro e w1 ⟨rfl, hb1⟩
  have hB1 : Below (w.alloc (.cells #[.int .i64 0, .int .i64 0] 141)).heap.size (w.alloc (.cells #[.int .i64 0, .int .i64 0] 141)) (w1.alloc (.cells #[.int .i64 13, .int .i64 d, .int .i64 a, .int .i64 i] 124)) := hb1.alloc hb1.size _
  have kb := Blk.new w1 #[.int .i64 13, .int .i64 d, .int .i64 a, .int .i64 i] 124
  have H1 := H0.below hB1
  have ke1 := ke.below hB1
  have T1 := T0.trans (turn_below hB1)
  have K1 := K0.trans (keeps_below hB1)
  have hs1 : w.heap.size < w1.heap.size := by have := hb1.size; simp at this; omega
  have hne1 : w1.heap.size ≠ w.heap.size := by omega
  have hne2 : w.heap.size ≠ w1.heap.size := by omega
  clear hb1 hB1 ke H0 T0 K0
  go_wp2_with fail
  obtain ⟨k1, k2, k3, k4, k5⟩ := kb.four'
  obtain ⟨e1, e2, e3⟩ := ke1.two'
  go_region_held3 (fun w' => w'.cell? ⟨w1.heap.size, 0, none⟩ = some (.int .i64 13) ∧ w'.cell? ⟨w1.heap.size, 1, none⟩ = some (.int .i64 d) ∧ w'.cell? ⟨w1.heap.size, 2, none⟩ = some (.int .i64 a) ∧ w'.cell? ⟨w1.heap.size, 3, none⟩ = some (.int .i64 i)) (go_keep)
    (first
      | (go_at_call 171; refine (operationOf_13 _).mono ?_; rintro e w2 ⟨rfl, hb2⟩; (try replace hb2 := undrew hb2); obtain ⟨k1, k2, k3, k4, k5⟩ := (kb.below hb2).four'; have H2 := H1.below hb2)
      | (go_at_call 240; refine (HO.out _ H2).mono ?_; rintro e w9 ⟨b3, m3, d3, rfl, H9, t9, q9⟩; dsimp only at H9; have ke9 := q9 _ _ _ (ke1.below hb2) hG (by decide); obtain ⟨hp, y0', y1'⟩ := op_done H9 ke9 hG hbG ((T1.trans (turn_below hb2)).trans t9) ((K1.trans (keeps_below hb2)).trans q9) (Nat.le_refl _) did num; have HX := hide hp; obtain ⟨e1, e2, e3⟩ := ke9.two'; obtain ⟨k1, k2, k3, k4, k5⟩ := (q9 _ _ _ (kb.below hb2) (by omega) (by decide)).four'; clear hp H9 ke9))
  all_goals
    go_wp2
    exact bodyPost_ret (v := .agg #[.int .i64 did, .int .i64 num]) (by simp [results, Tryz.results98, go_sem, y0', y1']) rfl HX.out

set_option maxHeartbeats 1000000 in
theorem step14_any (d a i : Int) (g base : Nat) (pc : Int) (rg : List Int) (a1 a2 a3 : Option Addr) (n1 c1 n2 c2 n3 c3 : Nat) (x1 x2 x3 : List Int) (ra : Option Addr) (rn rc : Nat) (rs : List Rg) (w : World) (h : Pm w g base pc rg a1 a2 a3 n1 c1 n2 c2 n3 c3 x1 x2 x3 ra rn rc rs) (hf : fet pc n1 n2 n3 x1 x2 rs rn = 0)
    (hx : (rd n1 n2 n3 x1 x2 pc 4).1 / 67108864 = 14 ∧ (rd n1 n2 n3 x1 x2 pc 4).1 / 8388608 % 8 = d ∧ (rd n1 n2 n3 x1 x2 pc 4).1 / 1048576 % 8 = a ∧ (rd n1 n2 n3 x1 x2 pc 4).1 % 65536 = i) :
    Calls Tryz.prog 98 #[.pointer (some ⟨g, 0, none⟩)] w (OpPost w g base a1 a2 n1 c1 n2 c2 ra rn rc rs (opr 14 d a i pc rg n1 n2 n3 x1 x2 x3 rs rn)) := by
  have hB0 : Below w.heap.size w (w.alloc (.cells #[.int .i64 0, .int .i64 0] 141)) := (Below.refl _ _).alloc (Nat.le_refl _) _
  have ke := Blk.new w #[.int .i64 0, .int .i64 0] 141
  have H0 := h.below hB0
  have hlt := h.pr.blk.lt
  have HBB := hide h.bb
  have hG : w.heap.size ≠ g := by omega
  have hbG : base ≤ w.heap.size := by have := h.bb; omega
  have T0 : Turn (fun j => base ≤ j) w _ := turn_below hB0
  have K0 : Keeps g w _ := keeps_below hB0
  have HF := hide (fun w h => pfetch_any g base pc rg a1 a2 a3 n1 c1 n2 c2 n3 c3 x1 x2 x3 ra rn rc rs w h)
  rw [hf, fin, if_pos rfl, hx.1, hx.2.1, hx.2.2.1, hx.2.2.2] at HF
  have HO := hide (fun w (h : Pm w g base pc rg a1 a2 a3 n1 c1 n2 c2 n3 c3 x1 x2 x3 ra rn rc rs) => opr14_any d a i g base pc rg a1 a2 a3 n1 c1 n2 c2 n3 c3 x1 x2 x3 ra rn rc rs w h (by omega) (by omega) (by omega) (by omega) (by omega) (by omega))
  clear hx hf
  generalize opr 14 d a i pc rg n1 n2 n3 x1 x2 x3 rs rn = r at *
  obtain ⟨did, num, pc', rg', y1, y2, y3⟩ := r
  clear h hB0
  go_enter Tryz.func98, Tryz.ntmps98
  go_wp2_with fail
  refine (HF.out _ H0).mono ?_
  rintro e w1 ⟨rfl, hb1⟩
  have hB1 : Below (w.alloc (.cells #[.int .i64 0, .int .i64 0] 141)).heap.size (w.alloc (.cells #[.int .i64 0, .int .i64 0] 141)) (w1.alloc (.cells #[.int .i64 14, .int .i64 d, .int .i64 a, .int .i64 i] 124)) := hb1.alloc hb1.size _
  have kb := Blk.new w1 #[.int .i64 14, .int .i64 d, .int .i64 a, .int .i64 i] 124
  have H1 := H0.below hB1
  have ke1 := ke.below hB1
  have T1 := T0.trans (turn_below hB1)
  have K1 := K0.trans (keeps_below hB1)
  have hs1 : w.heap.size < w1.heap.size := by have := hb1.size; simp at this; omega
  have hne1 : w1.heap.size ≠ w.heap.size := by omega
  have hne2 : w.heap.size ≠ w1.heap.size := by omega
  clear hb1 hB1 ke H0 T0 K0
  go_wp2_with fail
  obtain ⟨k1, k2, k3, k4, k5⟩ := kb.four'
  obtain ⟨e1, e2, e3⟩ := ke1.two'
  go_region_held3 (fun w' => w'.cell? ⟨w1.heap.size, 0, none⟩ = some (.int .i64 14) ∧ w'.cell? ⟨w1.heap.size, 1, none⟩ = some (.int .i64 d) ∧ w'.cell? ⟨w1.heap.size, 2, none⟩ = some (.int .i64 a) ∧ w'.cell? ⟨w1.heap.size, 3, none⟩ = some (.int .i64 i)) (go_keep)
    (first
      | (go_at_call 171; refine (operationOf_14 _).mono ?_; rintro e w2 ⟨rfl, hb2⟩; (try replace hb2 := undrew hb2); obtain ⟨k1, k2, k3, k4, k5⟩ := (kb.below hb2).four'; have H2 := H1.below hb2)
      | (go_at_call 241; refine (HO.out _ H2).mono ?_; rintro e w9 ⟨b3, m3, d3, rfl, H9, t9, q9⟩; dsimp only at H9; have ke9 := q9 _ _ _ (ke1.below hb2) hG (by decide); obtain ⟨hp, y0', y1'⟩ := op_done H9 ke9 hG hbG ((T1.trans (turn_below hb2)).trans t9) ((K1.trans (keeps_below hb2)).trans q9) (Nat.le_refl _) did num; have HX := hide hp; obtain ⟨e1, e2, e3⟩ := ke9.two'; obtain ⟨k1, k2, k3, k4, k5⟩ := (q9 _ _ _ (kb.below hb2) (by omega) (by decide)).four'; clear hp H9 ke9))
  all_goals
    go_wp2
    exact bodyPost_ret (v := .agg #[.int .i64 did, .int .i64 num]) (by simp [results, Tryz.results98, go_sem, y0', y1']) rfl HX.out

set_option maxHeartbeats 1000000 in
theorem step15_any (d a i : Int) (g base : Nat) (pc : Int) (rg : List Int) (a1 a2 a3 : Option Addr) (n1 c1 n2 c2 n3 c3 : Nat) (x1 x2 x3 : List Int) (ra : Option Addr) (rn rc : Nat) (rs : List Rg) (w : World) (h : Pm w g base pc rg a1 a2 a3 n1 c1 n2 c2 n3 c3 x1 x2 x3 ra rn rc rs) (hf : fet pc n1 n2 n3 x1 x2 rs rn = 0)
    (hx : (rd n1 n2 n3 x1 x2 pc 4).1 / 67108864 = 15 ∧ (rd n1 n2 n3 x1 x2 pc 4).1 / 8388608 % 8 = d ∧ (rd n1 n2 n3 x1 x2 pc 4).1 / 1048576 % 8 = a ∧ (rd n1 n2 n3 x1 x2 pc 4).1 % 65536 = i) :
    Calls Tryz.prog 98 #[.pointer (some ⟨g, 0, none⟩)] w (OpPost w g base a1 a2 n1 c1 n2 c2 ra rn rc rs (opr 15 d a i pc rg n1 n2 n3 x1 x2 x3 rs rn)) := by
  have hB0 : Below w.heap.size w (w.alloc (.cells #[.int .i64 0, .int .i64 0] 141)) := (Below.refl _ _).alloc (Nat.le_refl _) _
  have ke := Blk.new w #[.int .i64 0, .int .i64 0] 141
  have H0 := h.below hB0
  have hlt := h.pr.blk.lt
  have HBB := hide h.bb
  have hG : w.heap.size ≠ g := by omega
  have hbG : base ≤ w.heap.size := by have := h.bb; omega
  have T0 : Turn (fun j => base ≤ j) w _ := turn_below hB0
  have K0 : Keeps g w _ := keeps_below hB0
  have HF := hide (fun w h => pfetch_any g base pc rg a1 a2 a3 n1 c1 n2 c2 n3 c3 x1 x2 x3 ra rn rc rs w h)
  rw [hf, fin, if_pos rfl, hx.1, hx.2.1, hx.2.2.1, hx.2.2.2] at HF
  have HO := hide (fun w (h : Pm w g base pc rg a1 a2 a3 n1 c1 n2 c2 n3 c3 x1 x2 x3 ra rn rc rs) => opr15_any d a i g base pc rg a1 a2 a3 n1 c1 n2 c2 n3 c3 x1 x2 x3 ra rn rc rs w h (by omega) (by omega) (by omega) (by omega) (by omega) (by omega))
  clear hx hf
  generalize opr 15 d a i pc rg n1 n2 n3 x1 x2 x3 rs rn = r at *
  obtain ⟨did, num, pc', rg', y1, y2, y3⟩ := r
  clear h hB0
  go_enter Tryz.func98, Tryz.ntmps98
  go_wp2_with fail
  refine (HF.out _ H0).mono ?_
  rintro e w1 ⟨rfl, hb1⟩
  have hB1 : Below (w.alloc (.cells #[.int .i64 0, .int .i64 0] 141)).heap.size (w.alloc (.cells #[.int .i64 0, .int .i64 0] 141)) (w1.alloc (.cells #[.int .i64 15, .int .i64 d, .int .i64 a, .int .i64 i] 124)) := hb1.alloc hb1.size _
  have kb := Blk.new w1 #[.int .i64 15, .int .i64 d, .int .i64 a, .int .i64 i] 124
  have H1 := H0.below hB1
  have ke1 := ke.below hB1
  have T1 := T0.trans (turn_below hB1)
  have K1 := K0.trans (keeps_below hB1)
  have hs1 : w.heap.size < w1.heap.size := by have := hb1.size; simp at this; omega
  have hne1 : w1.heap.size ≠ w.heap.size := by omega
  have hne2 : w.heap.size ≠ w1.heap.size := by omega
  clear hb1 hB1 ke H0 T0 K0
  go_wp2_with fail
  obtain ⟨k1, k2, k3, k4, k5⟩ := kb.four'
  obtain ⟨e1, e2, e3⟩ := ke1.two'
  go_region_held3 (fun w' => w'.cell? ⟨w1.heap.size, 0, none⟩ = some (.int .i64 15) ∧ w'.cell? ⟨w1.heap.size, 1, none⟩ = some (.int .i64 d) ∧ w'.cell? ⟨w1.heap.size, 2, none⟩ = some (.int .i64 a) ∧ w'.cell? ⟨w1.heap.size, 3, none⟩ = some (.int .i64 i)) (go_keep)
    (first
      | (go_at_call 171; refine (operationOf_15 _).mono ?_; rintro e w2 ⟨rfl, hb2⟩; (try replace hb2 := undrew hb2); obtain ⟨k1, k2, k3, k4, k5⟩ := (kb.below hb2).four'; have H2 := H1.below hb2)
      | (go_at_call 243; refine (HO.out _ H2).mono ?_; rintro e w9 ⟨b3, m3, d3, rfl, H9, t9, q9⟩; dsimp only at H9; have ke9 := q9 _ _ _ (ke1.below hb2) hG (by decide); obtain ⟨hp, y0', y1'⟩ := op_done H9 ke9 hG hbG ((T1.trans (turn_below hb2)).trans t9) ((K1.trans (keeps_below hb2)).trans q9) (Nat.le_refl _) did num; have HX := hide hp; obtain ⟨e1, e2, e3⟩ := ke9.two'; obtain ⟨k1, k2, k3, k4, k5⟩ := (q9 _ _ _ (kb.below hb2) (by omega) (by decide)).four'; clear hp H9 ke9))
  all_goals
    go_wp2
    exact bodyPost_ret (v := .agg #[.int .i64 did, .int .i64 num]) (by simp [results, Tryz.results98, go_sem, y0', y1']) rfl HX.out

set_option maxHeartbeats 1000000 in
theorem step16_any (d a i : Int) (g base : Nat) (pc : Int) (rg : List Int) (a1 a2 a3 : Option Addr) (n1 c1 n2 c2 n3 c3 : Nat) (x1 x2 x3 : List Int) (ra : Option Addr) (rn rc : Nat) (rs : List Rg) (w : World) (h : Pm w g base pc rg a1 a2 a3 n1 c1 n2 c2 n3 c3 x1 x2 x3 ra rn rc rs) (hf : fet pc n1 n2 n3 x1 x2 rs rn = 0)
    (hx : (rd n1 n2 n3 x1 x2 pc 4).1 / 67108864 = 16 ∧ (rd n1 n2 n3 x1 x2 pc 4).1 / 8388608 % 8 = d ∧ (rd n1 n2 n3 x1 x2 pc 4).1 / 1048576 % 8 = a ∧ (rd n1 n2 n3 x1 x2 pc 4).1 % 65536 = i) :
    Calls Tryz.prog 98 #[.pointer (some ⟨g, 0, none⟩)] w (OpPost w g base a1 a2 n1 c1 n2 c2 ra rn rc rs (opr 16 d a i pc rg n1 n2 n3 x1 x2 x3 rs rn)) := by
  have hB0 : Below w.heap.size w (w.alloc (.cells #[.int .i64 0, .int .i64 0] 141)) := (Below.refl _ _).alloc (Nat.le_refl _) _
  have ke := Blk.new w #[.int .i64 0, .int .i64 0] 141
  have H0 := h.below hB0
  have hlt := h.pr.blk.lt
  have HBB := hide h.bb
  have hG : w.heap.size ≠ g := by omega
  have hbG : base ≤ w.heap.size := by have := h.bb; omega
  have T0 : Turn (fun j => base ≤ j) w _ := turn_below hB0
  have K0 : Keeps g w _ := keeps_below hB0
  have HF := hide (fun w h => pfetch_any g base pc rg a1 a2 a3 n1 c1 n2 c2 n3 c3 x1 x2 x3 ra rn rc rs w h)
  rw [hf, fin, if_pos rfl, hx.1, hx.2.1, hx.2.2.1, hx.2.2.2] at HF
  have HO := hide (fun w (h : Pm w g base pc rg a1 a2 a3 n1 c1 n2 c2 n3 c3 x1 x2 x3 ra rn rc rs) => opr16_any d a i g base pc rg a1 a2 a3 n1 c1 n2 c2 n3 c3 x1 x2 x3 ra rn rc rs w h (by omega) (by omega) (by omega) (by omega) (by omega) (by omega))
  clear hx hf
  generalize opr 16 d a i pc rg n1 n2 n3 x1 x2 x3 rs rn = r at *
  obtain ⟨did, num, pc', rg', y1, y2, y3⟩ := r
  clear h hB0
  go_enter Tryz.func98, Tryz.ntmps98
  go_wp2_with fail
  refine (HF.out _ H0).mono ?_
  rintro e w1 ⟨rfl, hb1⟩
  have hB1 : Below (w.alloc (.cells #[.int .i64 0, .int .i64 0] 141)).heap.size (w.alloc (.cells #[.int .i64 0, .int .i64 0] 141)) (w1.alloc (.cells #[.int .i64 16, .int .i64 d, .int .i64 a, .int .i64 i] 124)) := hb1.alloc hb1.size _
  have kb := Blk.new w1 #[.int .i64 16, .int .i64 d, .int .i64 a, .int .i64 i] 124
  have H1 := H0.below hB1
  have ke1 := ke.below hB1
  have T1 := T0.trans (turn_below hB1)
  have K1 := K0.trans (keeps_below hB1)
  have hs1 : w.heap.size < w1.heap.size := by have := hb1.size; simp at this; omega
  have hne1 : w1.heap.size ≠ w.heap.size := by omega
  have hne2 : w.heap.size ≠ w1.heap.size := by omega
  clear hb1 hB1 ke H0 T0 K0
  go_wp2_with fail
  obtain ⟨k1, k2, k3, k4, k5⟩ := kb.four'
  obtain ⟨e1, e2, e3⟩ := ke1.two'
  go_region_held3 (fun w' => w'.cell? ⟨w1.heap.size, 0, none⟩ = some (.int .i64 16) ∧ w'.cell? ⟨w1.heap.size, 1, none⟩ = some (.int .i64 d) ∧ w'.cell? ⟨w1.heap.size, 2, none⟩ = some (.int .i64 a) ∧ w'.cell? ⟨w1.heap.size, 3, none⟩ = some (.int .i64 i)) (go_keep)
    (first
      | (go_at_call 171; refine (operationOf_16 _).mono ?_; rintro e w2 ⟨rfl, hb2⟩; (try replace hb2 := undrew hb2); obtain ⟨k1, k2, k3, k4, k5⟩ := (kb.below hb2).four'; have H2 := H1.below hb2)
      | (go_at_call 244; refine (HO.out _ H2).mono ?_; rintro e w9 ⟨b3, m3, d3, rfl, H9, t9, q9⟩; dsimp only at H9; have ke9 := q9 _ _ _ (ke1.below hb2) hG (by decide); obtain ⟨hp, y0', y1'⟩ := op_done H9 ke9 hG hbG ((T1.trans (turn_below hb2)).trans t9) ((K1.trans (keeps_below hb2)).trans q9) (Nat.le_refl _) did num; have HX := hide hp; obtain ⟨e1, e2, e3⟩ := ke9.two'; obtain ⟨k1, k2, k3, k4, k5⟩ := (q9 _ _ _ (kb.below hb2) (by omega) (by decide)).four'; clear hp H9 ke9))
  all_goals
    go_wp2
    exact bodyPost_ret (v := .agg #[.int .i64 did, .int .i64 num]) (by simp [results, Tryz.results98, go_sem, y0', y1']) rfl HX.out

set_option maxHeartbeats 1000000 in
theorem step17_any (d a i : Int) (g base : Nat) (pc : Int) (rg : List Int) (a1 a2 a3 : Option Addr) (n1 c1 n2 c2 n3 c3 : Nat) (x1 x2 x3 : List Int) (ra : Option Addr) (rn rc : Nat) (rs : List Rg) (w : World) (h : Pm w g base pc rg a1 a2 a3 n1 c1 n2 c2 n3 c3 x1 x2 x3 ra rn rc rs) (hf : fet pc n1 n2 n3 x1 x2 rs rn = 0)
    (hx : (rd n1 n2 n3 x1 x2 pc 4).1 / 67108864 = 17 ∧ (rd n1 n2 n3 x1 x2 pc 4).1 / 8388608 % 8 = d ∧ (rd n1 n2 n3 x1 x2 pc 4).1 / 1048576 % 8 = a ∧ (rd n1 n2 n3 x1 x2 pc 4).1 % 65536 = i) :
    Calls Tryz.prog 98 #[.pointer (some ⟨g, 0, none⟩)] w (OpPost w g base a1 a2 n1 c1 n2 c2 ra rn rc rs (opr 17 d a i pc rg n1 n2 n3 x1 x2 x3 rs rn)) := by
  have hB0 : Below w.heap.size w (w.alloc (.cells #[.int .i64 0, .int .i64 0] 141)) := (Below.refl _ _).alloc (Nat.le_refl _) _
  have ke := Blk.new w #[.int .i64 0, .int .i64 0] 141
  have H0 := h.below hB0
  have hlt := h.pr.blk.lt
  have HBB := hide h.bb
  have hG : w.heap.size ≠ g := by omega
  have hbG : base ≤ w.heap.size := by have := h.bb; omega
  have T0 : Turn (fun j => base ≤ j) w _ := turn_below hB0
  have K0 : Keeps g w _ := keeps_below hB0
  have HF := hide (fun w h => pfetch_any g base pc rg a1 a2 a3 n1 c1 n2 c2 n3 c3 x1 x2 x3 ra rn rc rs w h)
  rw [hf, fin, if_pos rfl, hx.1, hx.2.1, hx.2.2.1, hx.2.2.2] at HF
  have HO := hide (fun w (h : Pm w g base pc rg a1 a2 a3 n1 c1 n2 c2 n3 c3 x1 x2 x3 ra rn rc rs) => opr17_any d a i g base pc rg a1 a2 a3 n1 c1 n2 c2 n3 c3 x1 x2 x3 ra rn rc rs w h (by omega) (by omega) (by omega) (by omega) (by omega) (by omega))
  clear hx hf
  generalize opr 17 d a i pc rg n1 n2 n3 x1 x2 x3 rs rn = r at *
  obtain ⟨did, num, pc', rg', y1, y2, y3⟩ := r
  clear h hB0
  go_enter Tryz.func98, Tryz.ntmps98
  go_wp2_with fail
  refine (HF.out _ H0).mono ?_
  rintro e w1 ⟨rfl, hb1⟩
  have hB1 : Below (w.alloc (.cells #[.int .i64 0, .int .i64 0] 141)).heap.size (w.alloc (.cells #[.int .i64 0, .int .i64 0] 141)) (w1.alloc (.cells #[.int .i64 17, .int .i64 d, .int .i64 a, .int .i64 i] 124)) := hb1.alloc hb1.size _
  have kb := Blk.new w1 #[.int .i64 17, .int .i64 d, .int .i64 a, .int .i64 i] 124
  have H1 := H0.below hB1
  have ke1 := ke.below hB1
  have T1 := T0.trans (turn_below hB1)
  have K1 := K0.trans (keeps_below hB1)
  have hs1 : w.heap.size < w1.heap.size := by have := hb1.size; simp at this; omega
  have hne1 : w1.heap.size ≠ w.heap.size := by omega
  have hne2 : w.heap.size ≠ w1.heap.size := by omega
  clear hb1 hB1 ke H0 T0 K0
  go_wp2_with fail
  obtain ⟨k1, k2, k3, k4, k5⟩ := kb.four'
  obtain ⟨e1, e2, e3⟩ := ke1.two'
  go_region_held3 (fun w' => w'.cell? ⟨w1.heap.size, 0, none⟩ = some (.int .i64 17) ∧ w'.cell? ⟨w1.heap.size, 1, none⟩ = some (.int .i64 d) ∧ w'.cell? ⟨w1.heap.size, 2, none⟩ = some (.int .i64 a) ∧ w'.cell? ⟨w1.heap.size, 3, none⟩ = some (.int .i64 i)) (go_keep)
    (first
      | (go_at_call 171; refine (operationOf_17 _).mono ?_; rintro e w2 ⟨rfl, hb2⟩; (try replace hb2 := undrew hb2); obtain ⟨k1, k2, k3, k4, k5⟩ := (kb.below hb2).four'; have H2 := H1.below hb2)
      | (go_at_call 245; refine (HO.out _ H2).mono ?_; rintro e w9 ⟨b3, m3, d3, rfl, H9, t9, q9⟩; dsimp only at H9; have ke9 := q9 _ _ _ (ke1.below hb2) hG (by decide); obtain ⟨hp, y0', y1'⟩ := op_done H9 ke9 hG hbG ((T1.trans (turn_below hb2)).trans t9) ((K1.trans (keeps_below hb2)).trans q9) (Nat.le_refl _) did num; have HX := hide hp; obtain ⟨e1, e2, e3⟩ := ke9.two'; obtain ⟨k1, k2, k3, k4, k5⟩ := (q9 _ _ _ (kb.below hb2) (by omega) (by decide)).four'; clear hp H9 ke9))
  all_goals
    go_wp2
    exact bodyPost_ret (v := .agg #[.int .i64 did, .int .i64 num]) (by simp [results, Tryz.results98, go_sem, y0', y1']) rfl HX.out
end Go.Proofs.YtngdgogjlpjjpadGreat
