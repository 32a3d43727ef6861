import Derived.Test.YtngdgogjlpjjpadGreatK23
namespace Go.Proofs.YtngdgogjlpjjpadGreat
open Go.RowKit
set_option linter.unusedVariables false
set_option linter.unusedSimpArgs false
set_option maxRecDepth 100000

set_option maxHeartbeats 1000000 in
theorem step18_any (d a i : Int) (g base : Nat) (pc : Int) (rg : List Int) (a1 a2 a3 : Option Addr) (n1 c1 n2 c2 n3 c3 : Nat) (x1 x2 x3 : List Int) (ra : Option Addr) (rn rc : Nat) (rs : List Rg) (w : World) (h : Pm w g base pc rg a1 a2 a3 n1 c1 n2 c2 n3 c3 x1 x2 x3 ra rn rc rs) (hf : fet pc n1 n2 n3 x1 x2 rs rn = 0)
    (hx : (rd n1 n2 n3 x1 x2 pc 4).1 / 67108864 = 18 ∧ (rd n1 n2 n3 x1 x2 pc 4).1 / 8388608 % 8 = d ∧ (rd n1 n2 n3 x1 x2 pc 4).1 / 1048576 % 8 = a ∧ (rd n1 n2 n3 x1 x2 pc 4).1 % 65536 = i) :
    Calls Tryz.prog 98 #[.pointer (some ⟨g, 0, none⟩)] w (OpPost w g base a1 a2 n1 c1 n2 c2 ra rn rc rs (opr 18 d a i pc rg n1 n2 n3 x1 x2 x3 rs rn)) := by
  have hB0 : Below w.heap.size w (w.alloc (.cells #[.int .i64 0, .int .i64 0] 141)) := (Below.refl _ _).alloc (Nat.le_refl _) _
  have ke := Blk.new w #[.int .i64 0, .int .i64 0] 141
  have H0 := h.below hB0
  have hlt := h.pr.blk.lt
  have HBB := hide h.bb
  have hG : w.heap.size ≠ g := by omega
  have hbG : base ≤ w.heap.size := by have := h.bb; omega
  have T0 : Turn (fun j => base ≤ j) w _ := turn_below hB0
  have K0 : Keeps g w _ := keeps_below hB0
  have HF := hide (fun w h => pfetch_any g base pc rg a1 a2 a3 n1 c1 n2 c2 n3 c3 x1 x2 x3 ra rn rc rs w h)
  rw [hf, fin, if_pos rfl, hx.1, hx.2.1, hx.2.2.1, hx.2.2.2] at HF
  have HO := hide (fun w (h : Pm w g base pc rg a1 a2 a3 n1 c1 n2 c2 n3 c3 x1 x2 x3 ra rn rc rs) => opr18_any d a i g base pc rg a1 a2 a3 n1 c1 n2 c2 n3 c3 x1 x2 x3 ra rn rc rs w h (by omega) (by omega) (by omega) (by omega) (by omega) (by omega))
  clear hx hf
  generalize opr 18 d a i pc rg n1 n2 n3 x1 x2 x3 rs rn = r at *
  obtain ⟨did, num, pc', rg', y1, y2, y3⟩ := r
  clear h hB0
  go_enter Tryz.func98, Tryz.ntmps98
  go_wp2_with fail
  refine (HF.out _ H0).mono ?_
  rintro e w1 ⟨rfl, hb1⟩
  have hB1 : Below (w.alloc (.cells #[.int .i64 0, .int .i64 0] 141)).heap.size (w.alloc (.cells #[.int .i64 0, .int .i64 0] 141)) (w1.alloc (.cells #[.int .i64 18, .int .i64 d, .int .i64 a, .int .i64 i] 124)) := hb1.alloc hb1.size _
  have kb := Blk.new w1 #[.int .i64 18, .int .i64 d, .int .i64 a, .int .i64 i] 124
  have H1 := H0.below hB1
  have ke1 := ke.below hB1
  have T1 := T0.trans (turn_below hB1)
  have K1 := K0.trans (keeps_below hB1)
  have hs1 : w.heap.size < w1.heap.size := by have := hb1.size; simp at this; omega
  have hne1 : w1.heap.size ≠ w.heap.size := by omega
  have hne2 : w.heap.size ≠ w1.heap.size := by omega
  clear hb1 hB1 ke H0 T0 K0
  go_wp2_with fail
  obtain ⟨k1, k2, k3, k4, k5⟩ := kb.four'
  obtain ⟨e1, e2, e3⟩ := ke1.two'
  go_region_held3 (fun w' => w'.cell? ⟨w1.heap.size, 0, none⟩ = some (.int .i64 18) ∧ w'.cell? ⟨w1.heap.size, 1, none⟩ = some (.int .i64 d) ∧ w'.cell? ⟨w1.heap.size, 2, none⟩ = some (.int .i64 a) ∧ w'.cell? ⟨w1.heap.size, 3, none⟩ = some (.int .i64 i)) (go_keep)
    (first
      | (go_at_call 171; refine (operationOf_18 _).mono ?_; rintro e w2 ⟨rfl, hb2⟩; (try replace hb2 := undrew hb2); obtain ⟨k1, k2, k3, k4, k5⟩ := (kb.below hb2).four'; have H2 := H1.below hb2)
      | (go_at_call 247; refine (HO.out _ H2).mono ?_; rintro e w9 ⟨b3, m3, d3, rfl, H9, t9, q9⟩; dsimp only at H9; have ke9 := q9 _ _ _ (ke1.below hb2) hG (by decide); obtain ⟨hp, y0', y1'⟩ := op_done H9 ke9 hG hbG ((T1.trans (turn_below hb2)).trans t9) ((K1.trans (keeps_below hb2)).trans q9) (Nat.le_refl _) did num; have HX := hide hp; obtain ⟨e1, e2, e3⟩ := ke9.two'; obtain ⟨k1, k2, k3, k4, k5⟩ := (q9 _ _ _ (kb.below hb2) (by omega) (by decide)).four'; clear hp H9 ke9))
  all_goals
    go_wp2
    exact bodyPost_ret (v := .agg #[.int .i64 did, .int .i64 num]) (by simp [results, Tryz.results98, go_sem, y0', y1']) rfl HX.out

set_option maxHeartbeats 1000000 in
theorem step19_any (d a i : Int) (g base : Nat) (pc : Int) (rg : List Int) (a1 a2 a3 : Option Addr) (n1 c1 n2 c2 n3 c3 : Nat) (x1 x2 x3 : List Int) (ra : Option Addr) (rn rc : Nat) (rs : List Rg) (w : World) (h : Pm w g base pc rg a1 a2 a3 n1 c1 n2 c2 n3 c3 x1 x2 x3 ra rn rc rs) (hf : fet pc n1 n2 n3 x1 x2 rs rn = 0)
    (hx : (rd n1 n2 n3 x1 x2 pc 4).1 / 67108864 = 19 ∧ (rd n1 n2 n3 x1 x2 pc 4).1 / 8388608 % 8 = d ∧ (rd n1 n2 n3 x1 x2 pc 4).1 / 1048576 % 8 = a ∧ (rd n1 n2 n3 x1 x2 pc 4).1 % 65536 = i) :
    Calls Tryz.prog 98 #[.pointer (some ⟨g, 0, none⟩)] w (OpPost w g base a1 a2 n1 c1 n2 c2 ra rn rc rs (opr 19 d a i pc rg n1 n2 n3 x1 x2 x3 rs rn)) := by
  have hB0 : Below w.heap.size w (w.alloc (.cells #[.int .i64 0, .int .i64 0] 141)) := (Below.refl _ _).alloc (Nat.le_refl _) _
  have ke := Blk.new w #[.int .i64 0, .int .i64 0] 141
  have H0 := h.below hB0
  have hlt := h.pr.blk.lt
  have HBB := hide h.bb
  have hG : w.heap.size ≠ g := by omega
  have hbG : base ≤ w.heap.size := by have := h.bb; omega
  have T0 : Turn (fun j => base ≤ j) w _ := turn_below hB0
  have K0 : Keeps g w _ := keeps_below hB0
  have HF := hide (fun w h => pfetch_any g base pc rg a1 a2 a3 n1 c1 n2 c2 n3 c3 x1 x2 x3 ra rn rc rs w h)
  rw [hf, fin, if_pos rfl, hx.1, hx.2.1, hx.2.2.1, hx.2.2.2] at HF
  have HO := hide (fun w (h : Pm w g base pc rg a1 a2 a3 n1 c1 n2 c2 n3 c3 x1 x2 x3 ra rn rc rs) => opr19_any d a i g base pc rg a1 a2 a3 n1 c1 n2 c2 n3 c3 x1 x2 x3 ra rn rc rs w h (by omega) (by omega) (by omega) (by omega) (by omega) (by omega))
  clear hx hf
  generalize opr 19 d a i pc rg n1 n2 n3 x1 x2 x3 rs rn = r at *
  obtain ⟨did, num, pc', rg', y1, y2, y3⟩ := r
  clear h hB0
  go_enter Tryz.func98, Tryz.ntmps98
  go_wp2_with fail
  refine (HF.out _ H0).mono ?_
  rintro e w1 ⟨rfl, hb1⟩
  have hB1 : Below (w.alloc (.cells #[.int .i64 0, .int .i64 0] 141)).heap.size (w.alloc (.cells #[.int .i64 0, .int .i64 0] 141)) (w1.alloc (.cells #[.int .i64 19, .int .i64 d, .int .i64 a, .int .i64 i] 124)) := hb1.alloc hb1.size _
  have kb := Blk.new w1 #[.int .i64 19, .int .i64 d, .int .i64 a, .int .i64 i] 124
  have H1 := H0.below hB1
  have ke1 := ke.below hB1
  have T1 := T0.trans (turn_below hB1)
  have K1 := K0.trans (keeps_below hB1)
  have hs1 : w.heap.size < w1.heap.size := by have := hb1.size; simp at this; omega
  have hne1 : w1.heap.size ≠ w.heap.size := by omega
  have hne2 : w.heap.size ≠ w1.heap.size := by omega
  clear hb1 hB1 ke H0 T0 K0
  go_wp2_with fail
  obtain ⟨k1, k2, k3, k4, k5⟩ := kb.four'
  obtain ⟨e1, e2, e3⟩ := ke1.two'
  go_region_held3 (fun w' => w'.cell? ⟨w1.heap.size, 0, none⟩ = some (.int .i64 19) ∧ w'.cell? ⟨w1.heap.size, 1, none⟩ = some (.int .i64 d) ∧ w'.cell? ⟨w1.heap.size, 2, none⟩ = some (.int .i64 a) ∧ w'.cell? ⟨w1.heap.size, 3, none⟩ = some (.int .i64 i)) (go_keep)
    (first
      | (go_at_call 171; refine (operationOf_19 _).mono ?_; rintro e w2 ⟨rfl, hb2⟩; (try replace hb2 := undrew hb2); obtain ⟨k1, k2, k3, k4, k5⟩ := (kb.below hb2).four'; have H2 := H1.below hb2)
      | (go_at_call 248; refine (HO.out _ H2).mono ?_; rintro e w9 ⟨b3, m3, d3, rfl, H9, t9, q9⟩; dsimp only at H9; have ke9 := q9 _ _ _ (ke1.below hb2) hG (by decide); obtain ⟨hp, y0', y1'⟩ := op_done H9 ke9 hG hbG ((T1.trans (turn_below hb2)).trans t9) ((K1.trans (keeps_below hb2)).trans q9) (Nat.le_refl _) did num; have HX := hide hp; obtain ⟨e1, e2, e3⟩ := ke9.two'; obtain ⟨k1, k2, k3, k4, k5⟩ := (q9 _ _ _ (kb.below hb2) (by omega) (by decide)).four'; clear hp H9 ke9))
  all_goals
    go_wp2
    exact bodyPost_ret (v := .agg #[.int .i64 did, .int .i64 num]) (by simp [results, Tryz.results98, go_sem, y0', y1']) rfl HX.out

set_option maxHeartbeats 1000000 in
theorem step20_any (d a i : Int) (g base : Nat) (pc : Int) (rg : List Int) (a1 a2 a3 : Option Addr) (n1 c1 n2 c2 n3 c3 : Nat) (x1 x2 x3 : List Int) (ra : Option Addr) (rn rc : Nat) (rs : List Rg) (w : World) (h : Pm w g base pc rg a1 a2 a3 n1 c1 n2 c2 n3 c3 x1 x2 x3 ra rn rc rs) (hf : fet pc n1 n2 n3 x1 x2 rs rn = 0)
    (hx : (rd n1 n2 n3 x1 x2 pc 4).1 / 67108864 = 20 ∧ (rd n1 n2 n3 x1 x2 pc 4).1 / 8388608 % 8 = d ∧ (rd n1 n2 n3 x1 x2 pc 4).1 / 1048576 % 8 = a ∧ (rd n1 n2 n3 x1 x2 pc 4).1 % 65536 = i) :
    Calls Tryz.prog 98 #[.pointer (some ⟨g, 0, none⟩)] w (OpPost w g base a1 a2 n1 c1 n2 c2 ra rn rc rs (opr 20 d a i pc rg n1 n2 n3 x1 x2 x3 rs rn)) := by
  have hB0 : Below w.heap.size w (w.alloc (.cells #[.int .i64 0, .int .i64 0] 141)) := (Below.refl _ _).alloc (Nat.le_refl _) _
  have ke := Blk.new w #[.int .i64 0, .int .i64 0] 141
  have H0 := h.below hB0
  have hlt := h.pr.blk.lt
  have HBB := hide h.bb
  have hG : w.heap.size ≠ g := by omega
  have hbG : base ≤ w.heap.size := by have := h.bb; omega
  have T0 : Turn (fun j => base ≤ j) w _ := turn_below hB0
  have K0 : Keeps g w _ := keeps_below hB0
  have HF := hide (fun w h => pfetch_any g base pc rg a1 a2 a3 n1 c1 n2 c2 n3 c3 x1 x2 x3 ra rn rc rs w h)
  rw [hf, fin, if_pos rfl, hx.1, hx.2.1, hx.2.2.1, hx.2.2.2] at HF
  have HO := hide (fun w (h : Pm w g base pc rg a1 a2 a3 n1 c1 n2 c2 n3 c3 x1 x2 x3 ra rn rc rs) => opr20_any d a i g base pc rg a1 a2 a3 n1 c1 n2 c2 n3 c3 x1 x2 x3 ra rn rc rs w h (by omega) (by omega) (by omega) (by omega) (by omega) (by omega))
  clear hx hf
  generalize opr 20 d a i pc rg n1 n2 n3 x1 x2 x3 rs rn = r at *
  obtain ⟨did, num, pc', rg', y1, y2, y3⟩ := r
  clear h hB0
  go_enter Tryz.func98, Tryz.ntmps98
  go_wp2_with fail
  refine (HF.out _ H0).mono ?_
  rintro e w1 ⟨rfl, hb1⟩
  have hB1 : Below (w.alloc (.cells #[.int .i64 0, .int .i64 0] 141)).heap.size (w.alloc (.cells #[.int .i64 0, .int .i64 0] 141)) (w1.alloc (.cells #[.int .i64 20, .int .i64 d, .int .i64 a, .int .i64 i] 124)) := hb1.alloc hb1.size _
  have kb := Blk.new w1 #[.int .i64 20, .int .i64 d, .int .i64 a, .int .i64 i] 124
  have H1 := H0.below hB1
  have ke1 := ke.below hB1
  have T1 := T0.trans (turn_below hB1)
  have K1 := K0.trans (keeps_below hB1)
  have hs1 : w.heap.size < w1.heap.size := by have := hb1.size; simp at this; omega
  have hne1 : w1.heap.size ≠ w.heap.size := by omega
  have hne2 : w.heap.size ≠ w1.heap.size := by omega
  clear hb1 hB1 ke H0 T0 K0
  go_wp2_with fail
  obtain ⟨k1, k2, k3, k4, k5⟩ := kb.four'
  obtain ⟨e1, e2, e3⟩ := ke1.two'
  go_region_held3 (fun w' => w'.cell? ⟨w1.heap.size, 0, none⟩ = some (.int .i64 20) ∧ w'.cell? ⟨w1.heap.size, 1, none⟩ = some (.int .i64 d) ∧ w'.cell? ⟨w1.heap.size, 2, none⟩ = some (.int .i64 a) ∧ w'.cell? ⟨w1.heap.size, 3, none⟩ = some (.int .i64 i)) (go_keep)
    (first
      | (go_at_call 171; refine (operationOf_20 _).mono ?_; rintro e w2 ⟨rfl, hb2⟩; (try replace hb2 := undrew hb2); obtain ⟨k1, k2, k3, k4, k5⟩ := (kb.below hb2).four'; have H2 := H1.below hb2)
      | (go_at_call 249; refine (HO.out _ H2).mono ?_; rintro e w9 ⟨b3, m3, d3, rfl, H9, t9, q9⟩; dsimp only at H9; have ke9 := q9 _ _ _ (ke1.below hb2) hG (by decide); obtain ⟨hp, y0', y1'⟩ := op_done H9 ke9 hG hbG ((T1.trans (turn_below hb2)).trans t9) ((K1.trans (keeps_below hb2)).trans q9) (Nat.le_refl _) did num; have HX := hide hp; obtain ⟨e1, e2, e3⟩ := ke9.two'; obtain ⟨k1, k2, k3, k4, k5⟩ := (q9 _ _ _ (kb.below hb2) (by omega) (by decide)).four'; clear hp H9 ke9))
  all_goals
    go_wp2
    exact bodyPost_ret (v := .agg #[.int .i64 did, .int .i64 num]) (by simp [results, Tryz.results98, go_sem, y0', y1']) rfl HX.out

set_option maxHeartbeats 1000000 in
theorem step21_any (d a i : Int) (g base : Nat) (pc : Int) (rg : List Int) (a1 a2 a3 : Option Addr) (n1 c1 n2 c2 n3 c3 : Nat) (x1 x2 x3 : List Int) (ra : Option Addr) (rn rc : Nat) (rs : List Rg) (w : World) (h : Pm w g base pc rg a1 a2 a3 n1 c1 n2 c2 n3 c3 x1 x2 x3 ra rn rc rs) (hf : fet pc n1 n2 n3 x1 x2 rs rn = 0)
    (hx : (rd n1 n2 n3 x1 x2 pc 4).1 / 67108864 = 21 ∧ (rd n1 n2 n3 x1 x2 pc 4).1 / 8388608 % 8 = d ∧ (rd n1 n2 n3 x1 x2 pc 4).1 / 1048576 % 8 = a ∧ (rd n1 n2 n3 x1 x2 pc 4).1 % 65536 = i) :
    Calls Tryz.prog 98 #[.pointer (some ⟨g, 0, none⟩)] w (OpPost w g base a1 a2 n1 c1 n2 c2 ra rn rc rs (opr 21 d a i pc rg n1 n2 n3 x1 x2 x3 rs rn)) := by
  have hB0 : Below w.heap.size w (w.alloc (.cells #[.int .i64 0, .int .i64 0] 141)) := (Below.refl _ _).alloc (Nat.le_refl _) _
  have ke := Blk.new w #[.int .i64 0, .int .i64 0] 141
  have H0 := h.below hB0
  have hlt := h.pr.blk.lt
  have HBB := hide h.bb
  have hG : w.heap.size ≠ g := by omega
  have hbG : base ≤ w.heap.size := by have := h.bb; omega
  have T0 : Turn (fun j => base ≤ j) w _ := turn_below hB0
  have K0 : Keeps g w _ := keeps_below hB0
  have HF := hide (fun w h => pfetch_any g base pc rg a1 a2 a3 n1 c1 n2 c2 n3 c3 x1 x2 x3 ra rn rc rs w h)
  rw [hf, fin, if_pos rfl, hx.1, hx.2.1, hx.2.2.1, hx.2.2.2] at HF
  have HO := hide (fun w (h : Pm w g base pc rg a1 a2 a3 n1 c1 n2 c2 n3 c3 x1 x2 x3 ra rn rc rs) => opr21_any d a i g base pc rg a1 a2 a3 n1 c1 n2 c2 n3 c3 x1 x2 x3 ra rn rc rs w h (by omega) (by omega) (by omega) (by omega) (by omega) (by omega))
  clear hx hf
  generalize opr 21 d a i pc rg n1 n2 n3 x1 x2 x3 rs rn = r at *
  obtain ⟨did, num, pc', rg', y1, y2, y3⟩ := r
  clear h hB0
  go_enter Tryz.func98, Tryz.ntmps98
  go_wp2_with fail
  refine (HF.out _ H0).mono ?_
  rintro e w1 ⟨rfl, hb1⟩
  have hB1 : Below (w.alloc (.cells #[.int .i64 0, .int .i64 0] 141)).heap.size (w.alloc (.cells #[.int .i64 0, .int .i64 0] 141)) (w1.alloc (.cells #[.int .i64 21, .int .i64 d, .int .i64 a, .int .i64 i] 124)) := hb1.alloc hb1.size _
  have kb := Blk.new w1 #[.int .i64 21, .int .i64 d, .int .i64 a, .int .i64 i] 124
  have H1 := H0.below hB1
  have ke1 := ke.below hB1
  have T1 := T0.trans (turn_below hB1)
  have K1 := K0.trans (keeps_below hB1)
  have hs1 : w.heap.size < w1.heap.size := by have := hb1.size; simp at this; omega
  have hne1 : w1.heap.size ≠ w.heap.size := by omega
  have hne2 : w.heap.size ≠ w1.heap.size := by omega
  clear hb1 hB1 ke H0 T0 K0
  go_wp2_with fail
  obtain ⟨k1, k2, k3, k4, k5⟩ := kb.four'
  obtain ⟨e1, e2, e3⟩ := ke1.two'
  go_region_held3 (fun w' => w'.cell? ⟨w1.heap.size, 0, none⟩ = some (.int .i64 21) ∧ w'.cell? ⟨w1.heap.size, 1, none⟩ = some (.int .i64 d) ∧ w'.cell? ⟨w1.heap.size, 2, none⟩ = some (.int .i64 a) ∧ w'.cell? ⟨w1.heap.size, 3, none⟩ = some (.int .i64 i)) (go_keep)
    (first
      | (go_at_call 171; refine (operationOf_21 _).mono ?_; rintro e w2 ⟨rfl, hb2⟩; (try replace hb2 := undrew hb2); obtain ⟨k1, k2, k3, k4, k5⟩ := (kb.below hb2).four'; have H2 := H1.below hb2)
      | (go_at_call 251; refine (HO.out _ H2).mono ?_; rintro e w9 ⟨b3, m3, d3, rfl, H9, t9, q9⟩; dsimp only at H9; have ke9 := q9 _ _ _ (ke1.below hb2) hG (by decide); obtain ⟨hp, y0', y1'⟩ := op_done H9 ke9 hG hbG ((T1.trans (turn_below hb2)).trans t9) ((K1.trans (keeps_below hb2)).trans q9) (Nat.le_refl _) did num; have HX := hide hp; obtain ⟨e1, e2, e3⟩ := ke9.two'; obtain ⟨k1, k2, k3, k4, k5⟩ := (q9 _ _ _ (kb.below hb2) (by omega) (by decide)).four'; clear hp H9 ke9))
  all_goals
    go_wp2
    exact bodyPost_ret (v := .agg #[.int .i64 did, .int .i64 num]) (by simp [results, Tryz.results98, go_sem, y0', y1']) rfl HX.out

set_option maxHeartbeats 1000000 in
theorem step22_any (d a i : Int) (g base : Nat) (pc : Int) (rg : List Int) (a1 a2 a3 : Option Addr) (n1 c1 n2 c2 n3 c3 : Nat) (x1 x2 x3 : List Int) (ra : Option Addr) (rn rc : Nat) (rs : List Rg) (w : World) (h : Pm w g base pc rg a1 a2 a3 n1 c1 n2 c2 n3 c3 x1 x2 x3 ra rn rc rs) (hf : fet pc n1 n2 n3 x1 x2 rs rn = 0)
    (hx : (rd n1 n2 n3 x1 x2 pc 4).1 / 67108864 = 22 ∧ (rd n1 n2 n3 x1 x2 pc 4).1 / 8388608 % 8 = d ∧ (rd n1 n2 n3 x1 x2 pc 4).1 / 1048576 % 8 = a ∧ (rd n1 n2 n3 x1 x2 pc 4).1 % 65536 = i) :
    Calls Tryz.prog 98 #[.pointer (some ⟨g, 0, none⟩)] w (OpPost w g base a1 a2 n1 c1 n2 c2 ra rn rc rs (opr 22 d a i pc rg n1 n2 n3 x1 x2 x3 rs rn)) := by
  have hB0 : Below w.heap.size w (w.alloc (.cells #[.int .i64 0, .int .i64 0] 141)) := (Below.refl _ _).alloc (Nat.le_refl _) _
  have ke := Blk.new w #[.int .i64 0, .int .i64 0] 141
  have H0 := h.below hB0
  have hlt := h.pr.blk.lt
  have HBB := hide h.bb
  have hG : w.heap.size ≠ g := by omega
  have hbG : base ≤ w.heap.size := by have := h.bb; omega
  have T0 : Turn (fun j => base ≤ j) w _ := turn_below hB0
  have K0 : Keeps g w _ := keeps_below hB0
  have HF := hide (fun w h => pfetch_any g base pc rg a1 a2 a3 n1 c1 n2 c2 n3 c3 x1 x2 x3 ra rn rc rs w h)
  rw [hf, fin, if_pos rfl, hx.1, hx.2.1, hx.2.2.1, hx.2.2.2] at HF
  have HO := hide (fun w (h : Pm w g base pc rg a1 a2 a3 n1 c1 n2 c2 n3 c3 x1 x2 x3 ra rn rc rs) => opr22_any d a i g base pc rg a1 a2 a3 n1 c1 n2 c2 n3 c3 x1 x2 x3 ra rn rc rs w h (by omega) (by omega) (by omega) (by omega) (by omega) (by omega))
  clear hx hf
  generalize opr 22 d a i pc rg n1 n2 n3 x1 x2 x3 rs rn = r at *
  obtain ⟨did, num, pc', rg', y1, y2, y3⟩ := r
  clear h hB0
  go_enter Tryz.func98, Tryz.ntmps98
  go_wp2_with fail
  refine (HF.out _ H0).mono ?_
  rintro e w1 ⟨rfl, hb1⟩
  have hB1 : Below (w.alloc (.cells #[.int .i64 0, .int .i64 0] 141)).heap.size (w.alloc (.cells #[.int .i64 0, .int .i64 0] 141)) (w1.alloc (.cells #[.int .i64 22, .int .i64 d, .int .i64 a, .int .i64 i] 124)) := hb1.alloc hb1.size _
  have kb := Blk.new w1 #[.int .i64 22, .int .i64 d, .int .i64 a, .int .i64 i] 124
  have H1 := H0.below hB1
  have ke1 := ke.below hB1
  have T1 := T0.trans (turn_below hB1)
  have K1 := K0.trans (keeps_below hB1)
  have hs1 : w.heap.size < w1.heap.size := by have := hb1.size; simp at this; omega
  have hne1 : w1.heap.size ≠ w.heap.size := by omega
  have hne2 : w.heap.size ≠ w1.heap.size := by omega
  clear hb1 hB1 ke H0 T0 K0
  go_wp2_with fail
  obtain ⟨k1, k2, k3, k4, k5⟩ := kb.four'
  obtain ⟨e1, e2, e3⟩ := ke1.two'
  go_region_held3 (fun w' => w'.cell? ⟨w1.heap.size, 0, none⟩ = some (.int .i64 22) ∧ w'.cell? ⟨w1.heap.size, 1, none⟩ = some (.int .i64 d) ∧ w'.cell? ⟨w1.heap.size, 2, none⟩ = some (.int .i64 a) ∧ w'.cell? ⟨w1.heap.size, 3, none⟩ = some (.int .i64 i)) (go_keep)
    (first
      | (go_at_call 171; refine (operationOf_22 _).mono ?_; rintro e w2 ⟨rfl, hb2⟩; (try replace hb2 := undrew hb2); obtain ⟨k1, k2, k3, k4, k5⟩ := (kb.below hb2).four'; have H2 := H1.below hb2)
      | (go_at_call 252; refine (HO.out _ H2).mono ?_; rintro e w9 ⟨b3, m3, d3, rfl, H9, t9, q9⟩; dsimp only at H9; have ke9 := q9 _ _ _ (ke1.below hb2) hG (by decide); obtain ⟨hp, y0', y1'⟩ := op_done H9 ke9 hG hbG ((T1.trans (turn_below hb2)).trans t9) ((K1.trans (keeps_below hb2)).trans q9) (Nat.le_refl _) did num; have HX := hide hp; obtain ⟨e1, e2, e3⟩ := ke9.two'; obtain ⟨k1, k2, k3, k4, k5⟩ := (q9 _ _ _ (kb.below hb2) (by omega) (by decide)).four'; clear hp H9 ke9))
  all_goals
    go_wp2
    exact bodyPost_ret (v := .agg #[.int .i64 did, .int .i64 num]) (by simp [results, Tryz.results98, go_sem, y0', y1']) rfl HX.out

set_option maxHeartbeats 1000000 in
theorem step23_any (d a i : Int) (g base : Nat) (pc : Int) (rg : List Int) (a1 a2 a3 : Option Addr) (n1 c1 n2 c2 n3 c3 : Nat) (x1 x2 x3 : List Int) (ra : Option Addr) (rn rc : Nat) (rs : List Rg) (w : World) (h : Pm w g base pc rg a1 a2 a3 n1 c1 n2 c2 n3 c3 x1 x2 x3 ra rn rc rs) (hf : fet pc n1 n2 n3 x1 x2 rs rn = 0)
    (hx : (rd n1 n2 n3 x1 x2 pc 4).1 / 67108864 = 23 ∧ (rd n1 n2 n3 x1 x2 pc 4).1 / 8388608 % 8 = d ∧ (rd n1 n2 n3 x1 x2 pc 4).1 / 1048576 % 8 = a ∧ (rd n1 n2 n3 x1 x2 pc 4).1 % 65536 = i) :
    Calls Tryz.prog 98 #[.pointer (some ⟨g, 0, none⟩)] w (OpPost w g base a1 a2 n1 c1 n2 c2 ra rn rc rs (opr 23 d a i pc rg n1 n2 n3 x1 x2 x3 rs rn)) := by
  have hB0 : Below w.heap.size w (w.alloc (.cells #[.int .i64 0, .int .i64 0] 141)) := (Below.refl _ _).alloc (Nat.le_refl _) _
  have ke := Blk.new w #[.int .i64 0, .int .i64 0] 141
  have H0 := h.below hB0
  have hlt := h.pr.blk.lt
  have HBB := hide h.bb
  have hG : w.heap.size ≠ g := by omega
  have hbG : base ≤ w.heap.size := by have := h.bb; omega
  have T0 : Turn (fun j => base ≤ j) w _ := turn_below hB0
  have K0 : Keeps g w _ := keeps_below hB0
  have HF := hide (fun w h => pfetch_any g base pc rg a1 a2 a3 n1 c1 n2 c2 n3 c3 x1 x2 x3 ra rn rc rs w h)
  rw [hf, fin, if_pos rfl, hx.1, hx.2.1, hx.2.2.1, hx.2.2.2] at HF
  have HO := hide (fun w (h : Pm w g base pc rg a1 a2 a3 n1 c1 n2 c2 n3 c3 x1 x2 x3 ra rn rc rs) => opr23_any d a i g base pc rg a1 a2 a3 n1 c1 n2 c2 n3 c3 x1 x2 x3 ra rn rc rs w h (by omega) (by omega) (by omega) (by omega) (by omega) (by omega))
  clear hx hf
  generalize opr 23 d a i pc rg n1 n2 n3 x1 x2 x3 rs rn = r at *
  obtain ⟨did, num, pc', rg', y1, y2, y3⟩ := r
  clear h hB0
  go_enter Tryz.func98, Tryz.ntmps98
  go_wp2_with fail
  refine (HF.out _ H0).mono ?_
  rintro e w1 ⟨rfl, hb1⟩
  have hB1 : Below (w.alloc (.cells #[.int .i64 0, .int .i64 0] 141)).heap.size (w.alloc (.cells #[.int .i64 0, .int .i64 0] 141)) (w1.alloc (.cells #[.int .i64 23, .int .i64 d, .int .i64 a, .int .i64 i] 124)) := hb1.alloc hb1.size _
  have kb := Blk.new w1 #[.int .i64 23, .int .i64 d, .int .i64 a, .int .i64 i] 124
  have H1 := H0.below hB1
  have ke1 := ke.below hB1
  have T1 := T0.trans (turn_below hB1)
  have K1 := K0.trans (keeps_below hB1)
  have hs1 : w.heap.size < w1.heap.size := by have := hb1.size; simp at this; omega
  have hne1 : w1.heap.size ≠ w.heap.size := by omega
  have hne2 : w.heap.size ≠ w1.heap.size := by omega
  clear hb1 hB1 ke H0 T0 K0
  go_wp2_with fail
  obtain ⟨k1, k2, k3, k4, k5⟩ := kb.four'
  obtain ⟨e1, e2, e3⟩ := ke1.two'
  go_region_held3 (fun w' => w'.cell? ⟨w1.heap.size, 0, none⟩ = some (.int .i64 23) ∧ w'.cell? ⟨w1.heap.size, 1, none⟩ = some (.int .i64 d) ∧ w'.cell? ⟨w1.heap.size, 2, none⟩ = some (.int .i64 a) ∧ w'.cell? ⟨w1.heap.size, 3, none⟩ = some (.int .i64 i)) (go_keep)
    (first
      | (go_at_call 171; refine (operationOf_23 _).mono ?_; rintro e w2 ⟨rfl, hb2⟩; (try replace hb2 := undrew hb2); obtain ⟨k1, k2, k3, k4, k5⟩ := (kb.below hb2).four'; have H2 := H1.below hb2)
      | (go_at_call 253; refine (HO.out _ H2).mono ?_; rintro e w9 ⟨b3, m3, d3, rfl, H9, t9, q9⟩; dsimp only at H9; have ke9 := q9 _ _ _ (ke1.below hb2) hG (by decide); obtain ⟨hp, y0', y1'⟩ := op_done H9 ke9 hG hbG ((T1.trans (turn_below hb2)).trans t9) ((K1.trans (keeps_below hb2)).trans q9) (Nat.le_refl _) did num; have HX := hide hp; obtain ⟨e1, e2, e3⟩ := ke9.two'; obtain ⟨k1, k2, k3, k4, k5⟩ := (q9 _ _ _ (kb.below hb2) (by omega) (by decide)).four'; clear hp H9 ke9))
  all_goals
    go_wp2
    exact bodyPost_ret (v := .agg #[.int .i64 did, .int .i64 num]) (by simp [results, Tryz.results98, go_sem, y0', y1']) rfl HX.out

set_option maxHeartbeats 1000000 in
theorem step24_any (d a i : Int) (g base : Nat) (pc : Int) (rg : List Int) (a1 a2 a3 : Option Addr) (n1 c1 n2 c2 n3 c3 : Nat) (x1 x2 x3 : List Int) (ra : Option Addr) (rn rc : Nat) (rs : List Rg) (w : World) (h : Pm w g base pc rg a1 a2 a3 n1 c1 n2 c2 n3 c3 x1 x2 x3 ra rn rc rs) (hf : fet pc n1 n2 n3 x1 x2 rs rn = 0)
    (hx : (rd n1 n2 n3 x1 x2 pc 4).1 / 67108864 = 24 ∧ (rd n1 n2 n3 x1 x2 pc 4).1 / 8388608 % 8 = d ∧ (rd n1 n2 n3 x1 x2 pc 4).1 / 1048576 % 8 = a ∧ (rd n1 n2 n3 x1 x2 pc 4).1 % 65536 = i) :
    Calls Tryz.prog 98 #[.pointer (some ⟨g, 0, none⟩)] w (OpPost w g base a1 a2 n1 c1 n2 c2 ra rn rc rs (opr 24 d a i pc rg n1 n2 n3 x1 x2 x3 rs rn)) := by
  have hB0 : Below w.heap.size w (w.alloc (.cells #[.int .i64 0, .int .i64 0] 141)) := (Below.refl _ _).alloc (Nat.le_refl _) _
  have ke := Blk.new w #[.int .i64 0, .int .i64 0] 141
  have H0 := h.below hB0
  have hlt := h.pr.blk.lt
  have HBB := hide h.bb
  have hG : w.heap.size ≠ g := by omega
  have hbG : base ≤ w.heap.size := by have := h.bb; omega
  have T0 : Turn (fun j => base ≤ j) w _ := turn_below hB0
  have K0 : Keeps g w _ := keeps_below hB0
  have HF := hide (fun w h => pfetch_any g base pc rg a1 a2 a3 n1 c1 n2 c2 n3 c3 x1 x2 x3 ra rn rc rs w h)
  rw [hf, fin, if_pos rfl, hx.1, hx.2.1, hx.2.2.1, hx.2.2.2] at HF
  have HO := hide (fun w (h : Pm w g base pc rg a1 a2 a3 n1 c1 n2 c2 n3 c3 x1 x2 x3 ra rn rc rs) => opr24_any d a i g base pc rg a1 a2 a3 n1 c1 n2 c2 n3 c3 x1 x2 x3 ra rn rc rs w h (by omega) (by omega) (by omega) (by omega) (by omega) (by omega))
  clear hx hf
  generalize opr 24 d a i pc rg n1 n2 n3 x1 x2 x3 rs rn = r at *
  obtain ⟨did, num, pc', rg', y1, y2, y3⟩ := r
  clear h hB0
  go_enter Tryz.func98, Tryz.ntmps98
  go_wp2_with fail
  refine (HF.out _ H0).mono ?_
  rintro e w1 ⟨rfl, hb1⟩
  have hB1 : Below (w.alloc (.cells #[.int .i64 0, .int .i64 0] 141)).heap.size (w.alloc (.cells #[.int .i64 0, .int .i64 0] 141)) (w1.alloc (.cells #[.int .i64 24, .int .i64 d, .int .i64 a, .int .i64 i] 124)) := hb1.alloc hb1.size _
  have kb := Blk.new w1 #[.int .i64 24, .int .i64 d, .int .i64 a, .int .i64 i] 124
  have H1 := H0.below hB1
  have ke1 := ke.below hB1
  have T1 := T0.trans (turn_below hB1)
  have K1 := K0.trans (keeps_below hB1)
  have hs1 : w.heap.size < w1.heap.size := by have := hb1.size; simp at this; omega
  have hne1 : w1.heap.size ≠ w.heap.size := by omega
  have hne2 : w.heap.size ≠ w1.heap.size := by omega
  clear hb1 hB1 ke H0 T0 K0
  go_wp2_with fail
  obtain ⟨k1, k2, k3, k4, k5⟩ := kb.four'
  obtain ⟨e1, e2, e3⟩ := ke1.two'
  go_region_held3 (fun w' => w'.cell? ⟨w1.heap.size, 0, none⟩ = some (.int .i64 24) ∧ w'.cell? ⟨w1.heap.size, 1, none⟩ = some (.int .i64 d) ∧ w'.cell? ⟨w1.heap.size, 2, none⟩ = some (.int .i64 a) ∧ w'.cell? ⟨w1.heap.size, 3, none⟩ = some (.int .i64 i)) (go_keep)
    (first
      | (go_at_call 171; refine (operationOf_24 _).mono ?_; rintro e w2 ⟨rfl, hb2⟩; (try replace hb2 := undrew hb2); obtain ⟨k1, k2, k3, k4, k5⟩ := (kb.below hb2).four'; have H2 := H1.below hb2)
      | (go_at_call 255; refine (HO.out _ H2).mono ?_; rintro e w9 ⟨b3, m3, d3, rfl, H9, t9, q9⟩; dsimp only at H9; have ke9 := q9 _ _ _ (ke1.below hb2) hG (by decide); obtain ⟨hp, y0', y1'⟩ := op_done H9 ke9 hG hbG ((T1.trans (turn_below hb2)).trans t9) ((K1.trans (keeps_below hb2)).trans q9) (Nat.le_refl _) did num; have HX := hide hp; obtain ⟨e1, e2, e3⟩ := ke9.two'; obtain ⟨k1, k2, k3, k4, k5⟩ := (q9 _ _ _ (kb.below hb2) (by omega) (by decide)).four'; clear hp H9 ke9))
  all_goals
    go_wp2
    exact bodyPost_ret (v := .agg #[.int .i64 did, .int .i64 num]) (by simp [results, Tryz.results98, go_sem, y0', y1']) rfl HX.out

set_option maxHeartbeats 1000000 in
theorem step25_any (d a i : Int) (g base : Nat) (pc : Int) (rg : List Int) (a1 a2 a3 : Option Addr) (n1 c1 n2 c2 n3 c3 : Nat) (x1 x2 x3 : List Int) (ra : Option Addr) (rn rc : Nat) (rs : List Rg) (w : World) (h : Pm w g base pc rg a1 a2 a3 n1 c1 n2 c2 n3 c3 x1 x2 x3 ra rn rc rs) (hf : fet pc n1 n2 n3 x1 x2 rs rn = 0)
    (hx : (rd n1 n2 n3 x1 x2 pc 4).1 / 67108864 = 25 ∧ (rd n1 n2 n3 x1 x2 pc 4).1 / 8388608 % 8 = d ∧ (rd n1 n2 n3 x1 x2 pc 4).1 / 1048576 % 8 = a ∧ (rd n1 n2 n3 x1 x2 pc 4).1 % 65536 = i) :
    Calls Tryz.prog 98 #[.pointer (some ⟨g, 0, none⟩)] w (OpPost w g base a1 a2 n1 c1 n2 c2 ra rn rc rs (opr 25 d a i pc rg n1 n2 n3 x1 x2 x3 rs rn)) := by
  have hB0 : Below w.heap.size w (w.alloc (.cells #[.int .i64 0, .int .i64 0] 141)) := (Below.refl _ _).alloc (Nat.le_refl _) _
  have ke := Blk.new w #[.int .i64 0, .int .i64 0] 141
  have H0 := h.below hB0
  have hlt := h.pr.blk.lt
  have HBB := hide h.bb
  have hG : w.heap.size ≠ g := by omega
  have hbG : base ≤ w.heap.size := by have := h.bb; omega
  have T0 : Turn (fun j => base ≤ j) w _ := turn_below hB0
  have K0 : Keeps g w _ := keeps_below hB0
  have HF := hide (fun w h => pfetch_any g base pc rg a1 a2 a3 n1 c1 n2 c2 n3 c3 x1 x2 x3 ra rn rc rs w h)
  rw [hf, fin, if_pos rfl, hx.1, hx.2.1, hx.2.2.1, hx.2.2.2] at HF
  have HO := hide (fun w (h : Pm w g base pc rg a1 a2 a3 n1 c1 n2 c2 n3 c3 x1 x2 x3 ra rn rc rs) => opr25_any d a i g base pc rg a1 a2 a3 n1 c1 n2 c2 n3 c3 x1 x2 x3 ra rn rc rs w h (by omega) (by omega) (by omega) (by omega) (by omega) (by omega))
  clear hx hf
  generalize opr 25 d a i pc rg n1 n2 n3 x1 x2 x3 rs rn = r at *
  obtain ⟨did, num, pc', rg', y1, y2, y3⟩ := r
  clear h hB0
  go_enter Tryz.func98, Tryz.ntmps98
  go_wp2_with fail
  refine (HF.out _ H0).mono ?_
  rintro e w1 ⟨rfl, hb1⟩
  have hB1 : Below (w.alloc (.cells #[.int .i64 0, .int .i64 0] 141)).heap.size (w.alloc (.cells #[.int .i64 0, .int .i64 0] 141)) (w1.alloc (.cells #[.int .i64 25, .int .i64 d, .int .i64 a, .int .i64 i] 124)) := hb1.alloc hb1.size _
  have kb := Blk.new w1 #[.int .i64 25, .int .i64 d, .int .i64 a, .int .i64 i] 124
  have H1 := H0.below hB1
  have ke1 := ke.below hB1
  have T1 := T0.trans (turn_below hB1)
  have K1 := K0.trans (keeps_below hB1)
  have hs1 : w.heap.size < w1.heap.size := by have := hb1.size; simp at this; omega
  have hne1 : w1.heap.size ≠ w.heap.size := by omega
  have hne2 : w.heap.size ≠ w1.heap.size := by omega
  clear hb1 hB1 ke H0 T0 K0
  go_wp2_with fail
  obtain ⟨k1, k2, k3, k4, k5⟩ := kb.four'
  obtain ⟨e1, e2, e3⟩ := ke1.two'
  go_region_held3 (fun w' => w'.cell? ⟨w1.heap.size, 0, none⟩ = some (.int .i64 25) ∧ w'.cell? ⟨w1.heap.size, 1, none⟩ = some (.int .i64 d) ∧ w'.cell? ⟨w1.heap.size, 2, none⟩ = some (.int .i64 a) ∧ w'.cell? ⟨w1.heap.size, 3, none⟩ = some (.int .i64 i)) (go_keep)
    (first
      | (go_at_call 171; refine (operationOf_25 _).mono ?_; rintro e w2 ⟨rfl, hb2⟩; (try replace hb2 := undrew hb2); obtain ⟨k1, k2, k3, k4, k5⟩ := (kb.below hb2).four'; have H2 := H1.below hb2)
      | (go_at_call 256; refine (HO.out _ H2).mono ?_; rintro e w9 ⟨b3, m3, d3, rfl, H9, t9, q9⟩; dsimp only at H9; have ke9 := q9 _ _ _ (ke1.below hb2) hG (by decide); obtain ⟨hp, y0', y1'⟩ := op_done H9 ke9 hG hbG ((T1.trans (turn_below hb2)).trans t9) ((K1.trans (keeps_below hb2)).trans q9) (Nat.le_refl _) did num; have HX := hide hp; obtain ⟨e1, e2, e3⟩ := ke9.two'; obtain ⟨k1, k2, k3, k4, k5⟩ := (q9 _ _ _ (kb.below hb2) (by omega) (by decide)).four'; clear hp H9 ke9))
  all_goals
    go_wp2
    exact bodyPost_ret (v := .agg #[.int .i64 did, .int .i64 num]) (by simp [results, Tryz.results98, go_sem, y0', y1']) rfl HX.out
end Go.Proofs.YtngdgogjlpjjpadGreat
