import Derived.Test.YtngdgogjlpjjpadGreatK20
import Derived.Test.YtngdgogjlpjjpadGreatK17
namespace Go.Proofs.YtngdgogjlpjjpadGreat
open Go.RowKit
set_option linter.unusedVariables false
set_option linter.unusedSimpArgs false
set_option maxRecDepth 100000

theorem pjump_eq (op d a i : Int) (t b : Bool) (q : Int) (g : Nat) (pc : Int) (rg : List Int) (s1 s2 s3 s4 : Value) (w : World) (ht : t = b) (hq : q = if b then (pc + 4 + 4 * wide i) % 4294967296 else (pc + 4) % 4294967296) (h : Pr w g pc rg s1 s2 s3 s4) (i0 : 0 ≤ i) (i1 : i ≤ 65535) :
    Calls Tryz.prog 250 #[.pointer (some ⟨g, 0, none⟩), .agg #[.int .i64 op, .int .i64 d, .int .i64 a, .int .i64 i], .bool t] w fun e w' => e = .returned (.agg #[.int .i64 0, .int .i64 0]) ∧ Pr w' g q rg s1 s2 s3 s4 ∧ Turn (fun j => j = g) w w' := by
  subst ht
  rw [hq]
  exact pjump_any op d a i t g pc rg s1 s2 s3 s4 w h i0 i1
theorem pleave_eq (did num u : Int) (hu : u = num) (g : Nat) (pc : Int) (rg : List Int) (s1 s2 s3 s4 : Value) (w : World) (h : Pr w g pc rg s1 s2 s3 s4) :
    Calls Tryz.prog 224 #[.pointer (some ⟨g, 0, none⟩), .int .i64 did, .int .i64 u] w fun e w' => e = .returned (.agg #[.int .i64 did, .int .i64 num]) ∧ Pr w' g ((pc + 4) % 4294967296) rg s1 s2 s3 s4 ∧ Turn (fun j => j = g) w w' := by
  subst hu
  exact pleave_any did u g pc rg s1 s2 s3 s4 w h

set_option maxHeartbeats 1000000 in
theorem op14_any (d a i : Int) (g base : Nat) (pc : Int) (rg : List Int) (a1 a2 a3 : Option Addr) (n1 c1 n2 c2 n3 c3 : Nat) (x1 x2 x3 : List Int) (ra : Option Addr) (rn rc : Nat) (rs : List Rg) (w : World) (h : Pm w g base pc rg a1 a2 a3 n1 c1 n2 c2 n3 c3 x1 x2 x3 ra rn rc rs) (d0 : 0 ≤ d) (d1 : d ≤ 7) (a0 : 0 ≤ a) (a7 : a ≤ 7) (i0 : 0 ≤ i) (i1 : i ≤ 65535) :
    Calls Tryz.prog 241 #[.pointer (some ⟨g, 0, none⟩), .agg #[.int .i64 14, .int .i64 d, .int .i64 a, .int .i64 i]] w (OpPost w g base a1 a2 n1 c1 n2 c2 ra rn rc rs (ldo pc rg n1 n2 n3 x1 x2 x3 rs rn d a i 1)) := by
  have hB0 : Below w.heap.size w ((w.alloc (.cells #[.int .i64 14, .int .i64 d, .int .i64 a, .int .i64 i] 124)).alloc (.cells #[.int .i64 0, .int .i64 0] 141)) := ((Below.refl _ _).alloc (Nat.le_refl _) _).alloc (by simp) _
  have kb := (Blk.new w #[.int .i64 14, .int .i64 d, .int .i64 a, .int .i64 i] 124).alloc (.cells #[.int .i64 0, .int .i64 0] 141)
  have ke := Blk.new (w.alloc (.cells #[.int .i64 14, .int .i64 d, .int .i64 a, .int .i64 i] 124)) #[.int .i64 0, .int .i64 0] 141
  simp only [World.size_alloc] at ke
  have H0 := h.below hB0
  have hlt := h.pr.blk.lt
  have HBB := hide h.bb
  have hG : w.heap.size + 1 ≠ g := by omega
  have hbG : base ≤ w.heap.size + 1 := by have := h.bb; omega
  have T0 : Turn (fun j => base ≤ j) w _ := turn_below hB0
  have K0 : Keeps g w _ := keeps_below hB0
  have HL := hide (fun w (h : Pm w g base pc rg a1 a2 a3 n1 c1 n2 c2 n3 c3 x1 x2 x3 ra rn rc rs) => pload_any 14 d a i 1 g base pc rg a1 a2 a3 n1 c1 n2 c2 n3 c3 x1 x2 x3 ra rn rc rs w h d0 d1 a0 a7 i0 i1)
  generalize ldo pc rg n1 n2 n3 x1 x2 x3 rs rn d a i 1 = r at *
  obtain ⟨did, num, pc', rg', y1, y2, y3⟩ := r
  clear h hB0
  obtain ⟨k1, k2, k3, k4, k5⟩ := kb.four'
  obtain ⟨e1, e2, e3⟩ := ke.two'
  go_enter Tryz.func241, Tryz.ntmps241
  go_wp2_with fail
  refine (HL.out _ H0).mono ?_
  rintro e w9 ⟨b3, m3, d3, rfl, H9, t9, q9⟩
  dsimp only at H9
  have ke9 := q9 _ _ _ ke hG (by decide)
  obtain ⟨hp, y0', y1'⟩ := op_done H9 ke9 hG hbG (T0.trans t9) (K0.trans q9) (by omega) did num
  have HX := hide hp
  clear e1 e2 e3
  obtain ⟨e1, e2, e3⟩ := ke9.two'
  clear hp H9 ke9 k1 k2 k3 k4 k5 H0
  go_wp2
  exact bodyPost_ret (v := .agg #[.int .i64 did, .int .i64 num]) (by simp [results, Tryz.results241, go_sem, y0', y1']) rfl HX.out

set_option maxHeartbeats 1000000 in
theorem op15_any (d a i : Int) (g base : Nat) (pc : Int) (rg : List Int) (a1 a2 a3 : Option Addr) (n1 c1 n2 c2 n3 c3 : Nat) (x1 x2 x3 : List Int) (ra : Option Addr) (rn rc : Nat) (rs : List Rg) (w : World) (h : Pm w g base pc rg a1 a2 a3 n1 c1 n2 c2 n3 c3 x1 x2 x3 ra rn rc rs) (d0 : 0 ≤ d) (d1 : d ≤ 7) (a0 : 0 ≤ a) (a7 : a ≤ 7) (i0 : 0 ≤ i) (i1 : i ≤ 65535) :
    Calls Tryz.prog 243 #[.pointer (some ⟨g, 0, none⟩), .agg #[.int .i64 15, .int .i64 d, .int .i64 a, .int .i64 i]] w (OpPost w g base a1 a2 n1 c1 n2 c2 ra rn rc rs (ldo pc rg n1 n2 n3 x1 x2 x3 rs rn d a i 2)) := by
  have hB0 : Below w.heap.size w ((w.alloc (.cells #[.int .i64 15, .int .i64 d, .int .i64 a, .int .i64 i] 124)).alloc (.cells #[.int .i64 0, .int .i64 0] 141)) := ((Below.refl _ _).alloc (Nat.le_refl _) _).alloc (by simp) _
  have kb := (Blk.new w #[.int .i64 15, .int .i64 d, .int .i64 a, .int .i64 i] 124).alloc (.cells #[.int .i64 0, .int .i64 0] 141)
  have ke := Blk.new (w.alloc (.cells #[.int .i64 15, .int .i64 d, .int .i64 a, .int .i64 i] 124)) #[.int .i64 0, .int .i64 0] 141
  simp only [World.size_alloc] at ke
  have H0 := h.below hB0
  have hlt := h.pr.blk.lt
  have HBB := hide h.bb
  have hG : w.heap.size + 1 ≠ g := by omega
  have hbG : base ≤ w.heap.size + 1 := by have := h.bb; omega
  have T0 : Turn (fun j => base ≤ j) w _ := turn_below hB0
  have K0 : Keeps g w _ := keeps_below hB0
  have HL := hide (fun w (h : Pm w g base pc rg a1 a2 a3 n1 c1 n2 c2 n3 c3 x1 x2 x3 ra rn rc rs) => pload_any 15 d a i 2 g base pc rg a1 a2 a3 n1 c1 n2 c2 n3 c3 x1 x2 x3 ra rn rc rs w h d0 d1 a0 a7 i0 i1)
  generalize ldo pc rg n1 n2 n3 x1 x2 x3 rs rn d a i 2 = r at *
  obtain ⟨did, num, pc', rg', y1, y2, y3⟩ := r
  clear h hB0
  obtain ⟨k1, k2, k3, k4, k5⟩ := kb.four'
  obtain ⟨e1, e2, e3⟩ := ke.two'
  go_enter Tryz.func243, Tryz.ntmps243
  go_wp2_with fail
  refine (HL.out _ H0).mono ?_
  rintro e w9 ⟨b3, m3, d3, rfl, H9, t9, q9⟩
  dsimp only at H9
  have ke9 := q9 _ _ _ ke hG (by decide)
  obtain ⟨hp, y0', y1'⟩ := op_done H9 ke9 hG hbG (T0.trans t9) (K0.trans q9) (by omega) did num
  have HX := hide hp
  clear e1 e2 e3
  obtain ⟨e1, e2, e3⟩ := ke9.two'
  clear hp H9 ke9 k1 k2 k3 k4 k5 H0
  go_wp2
  exact bodyPost_ret (v := .agg #[.int .i64 did, .int .i64 num]) (by simp [results, Tryz.results243, go_sem, y0', y1']) rfl HX.out

set_option maxHeartbeats 1000000 in
theorem op16_any (d a i : Int) (g base : Nat) (pc : Int) (rg : List Int) (a1 a2 a3 : Option Addr) (n1 c1 n2 c2 n3 c3 : Nat) (x1 x2 x3 : List Int) (ra : Option Addr) (rn rc : Nat) (rs : List Rg) (w : World) (h : Pm w g base pc rg a1 a2 a3 n1 c1 n2 c2 n3 c3 x1 x2 x3 ra rn rc rs) (d0 : 0 ≤ d) (d1 : d ≤ 7) (a0 : 0 ≤ a) (a7 : a ≤ 7) (i0 : 0 ≤ i) (i1 : i ≤ 65535) :
    Calls Tryz.prog 244 #[.pointer (some ⟨g, 0, none⟩), .agg #[.int .i64 16, .int .i64 d, .int .i64 a, .int .i64 i]] w (OpPost w g base a1 a2 n1 c1 n2 c2 ra rn rc rs (ldo pc rg n1 n2 n3 x1 x2 x3 rs rn d a i 4)) := by
  have hB0 : Below w.heap.size w ((w.alloc (.cells #[.int .i64 16, .int .i64 d, .int .i64 a, .int .i64 i] 124)).alloc (.cells #[.int .i64 0, .int .i64 0] 141)) := ((Below.refl _ _).alloc (Nat.le_refl _) _).alloc (by simp) _
  have kb := (Blk.new w #[.int .i64 16, .int .i64 d, .int .i64 a, .int .i64 i] 124).alloc (.cells #[.int .i64 0, .int .i64 0] 141)
  have ke := Blk.new (w.alloc (.cells #[.int .i64 16, .int .i64 d, .int .i64 a, .int .i64 i] 124)) #[.int .i64 0, .int .i64 0] 141
  simp only [World.size_alloc] at ke
  have H0 := h.below hB0
  have hlt := h.pr.blk.lt
  have HBB := hide h.bb
  have hG : w.heap.size + 1 ≠ g := by omega
  have hbG : base ≤ w.heap.size + 1 := by have := h.bb; omega
  have T0 : Turn (fun j => base ≤ j) w _ := turn_below hB0
  have K0 : Keeps g w _ := keeps_below hB0
  have HL := hide (fun w (h : Pm w g base pc rg a1 a2 a3 n1 c1 n2 c2 n3 c3 x1 x2 x3 ra rn rc rs) => pload_any 16 d a i 4 g base pc rg a1 a2 a3 n1 c1 n2 c2 n3 c3 x1 x2 x3 ra rn rc rs w h d0 d1 a0 a7 i0 i1)
  generalize ldo pc rg n1 n2 n3 x1 x2 x3 rs rn d a i 4 = r at *
  obtain ⟨did, num, pc', rg', y1, y2, y3⟩ := r
  clear h hB0
  obtain ⟨k1, k2, k3, k4, k5⟩ := kb.four'
  obtain ⟨e1, e2, e3⟩ := ke.two'
  go_enter Tryz.func244, Tryz.ntmps244
  go_wp2_with fail
  refine (HL.out _ H0).mono ?_
  rintro e w9 ⟨b3, m3, d3, rfl, H9, t9, q9⟩
  dsimp only at H9
  have ke9 := q9 _ _ _ ke hG (by decide)
  obtain ⟨hp, y0', y1'⟩ := op_done H9 ke9 hG hbG (T0.trans t9) (K0.trans q9) (by omega) did num
  have HX := hide hp
  clear e1 e2 e3
  obtain ⟨e1, e2, e3⟩ := ke9.two'
  clear hp H9 ke9 k1 k2 k3 k4 k5 H0
  go_wp2
  exact bodyPost_ret (v := .agg #[.int .i64 did, .int .i64 num]) (by simp [results, Tryz.results244, go_sem, y0', y1']) rfl HX.out

set_option maxHeartbeats 1000000 in
theorem op17_any (d a i : Int) (g base : Nat) (pc : Int) (rg : List Int) (a1 a2 a3 : Option Addr) (n1 c1 n2 c2 n3 c3 : Nat) (x1 x2 x3 : List Int) (ra : Option Addr) (rn rc : Nat) (rs : List Rg) (w : World) (h : Pm w g base pc rg a1 a2 a3 n1 c1 n2 c2 n3 c3 x1 x2 x3 ra rn rc rs) (d0 : 0 ≤ d) (d1 : d ≤ 7) (a0 : 0 ≤ a) (a7 : a ≤ 7) (i0 : 0 ≤ i) (i1 : i ≤ 65535) :
    Calls Tryz.prog 245 #[.pointer (some ⟨g, 0, none⟩), .agg #[.int .i64 17, .int .i64 d, .int .i64 a, .int .i64 i]] w (OpPost w g base a1 a2 n1 c1 n2 c2 ra rn rc rs (sto pc rg n1 n2 n3 x1 x2 x3 rs rn d a i 1)) := by
  have hB0 : Below w.heap.size w ((w.alloc (.cells #[.int .i64 17, .int .i64 d, .int .i64 a, .int .i64 i] 124)).alloc (.cells #[.int .i64 0, .int .i64 0] 141)) := ((Below.refl _ _).alloc (Nat.le_refl _) _).alloc (by simp) _
  have kb := (Blk.new w #[.int .i64 17, .int .i64 d, .int .i64 a, .int .i64 i] 124).alloc (.cells #[.int .i64 0, .int .i64 0] 141)
  have ke := Blk.new (w.alloc (.cells #[.int .i64 17, .int .i64 d, .int .i64 a, .int .i64 i] 124)) #[.int .i64 0, .int .i64 0] 141
  simp only [World.size_alloc] at ke
  have H0 := h.below hB0
  have hlt := h.pr.blk.lt
  have HBB := hide h.bb
  have hG : w.heap.size + 1 ≠ g := by omega
  have hbG : base ≤ w.heap.size + 1 := by have := h.bb; omega
  have T0 : Turn (fun j => base ≤ j) w _ := turn_below hB0
  have K0 : Keeps g w _ := keeps_below hB0
  have HL := hide (fun w (h : Pm w g base pc rg a1 a2 a3 n1 c1 n2 c2 n3 c3 x1 x2 x3 ra rn rc rs) => pstore_any 17 d a i 1 g base pc rg a1 a2 a3 n1 c1 n2 c2 n3 c3 x1 x2 x3 ra rn rc rs w h d0 d1 a0 a7 i0 i1)
  generalize sto pc rg n1 n2 n3 x1 x2 x3 rs rn d a i 1 = r at *
  obtain ⟨did, num, pc', rg', y1, y2, y3⟩ := r
  clear h hB0
  obtain ⟨k1, k2, k3, k4, k5⟩ := kb.four'
  obtain ⟨e1, e2, e3⟩ := ke.two'
  go_enter Tryz.func245, Tryz.ntmps245
  go_wp2_with fail
  refine (HL.out _ H0).mono ?_
  rintro e w9 ⟨b3, m3, d3, rfl, H9, t9, q9⟩
  dsimp only at H9
  have ke9 := q9 _ _ _ ke hG (by decide)
  obtain ⟨hp, y0', y1'⟩ := op_done H9 ke9 hG hbG (T0.trans t9) (K0.trans q9) (by omega) did num
  have HX := hide hp
  clear e1 e2 e3
  obtain ⟨e1, e2, e3⟩ := ke9.two'
  clear hp H9 ke9 k1 k2 k3 k4 k5 H0
  go_wp2
  exact bodyPost_ret (v := .agg #[.int .i64 did, .int .i64 num]) (by simp [results, Tryz.results245, go_sem, y0', y1']) rfl HX.out

set_option maxHeartbeats 1000000 in
theorem op18_any (d a i : Int) (g base : Nat) (pc : Int) (rg : List Int) (a1 a2 a3 : Option Addr) (n1 c1 n2 c2 n3 c3 : Nat) (x1 x2 x3 : List Int) (ra : Option Addr) (rn rc : Nat) (rs : List Rg) (w : World) (h : Pm w g base pc rg a1 a2 a3 n1 c1 n2 c2 n3 c3 x1 x2 x3 ra rn rc rs) (d0 : 0 ≤ d) (d1 : d ≤ 7) (a0 : 0 ≤ a) (a7 : a ≤ 7) (i0 : 0 ≤ i) (i1 : i ≤ 65535) :
    Calls Tryz.prog 247 #[.pointer (some ⟨g, 0, none⟩), .agg #[.int .i64 18, .int .i64 d, .int .i64 a, .int .i64 i]] w (OpPost w g base a1 a2 n1 c1 n2 c2 ra rn rc rs (sto pc rg n1 n2 n3 x1 x2 x3 rs rn d a i 2)) := by
  have hB0 : Below w.heap.size w ((w.alloc (.cells #[.int .i64 18, .int .i64 d, .int .i64 a, .int .i64 i] 124)).alloc (.cells #[.int .i64 0, .int .i64 0] 141)) := ((Below.refl _ _).alloc (Nat.le_refl _) _).alloc (by simp) _
  have kb := (Blk.new w #[.int .i64 18, .int .i64 d, .int .i64 a, .int .i64 i] 124).alloc (.cells #[.int .i64 0, .int .i64 0] 141)
  have ke := Blk.new (w.alloc (.cells #[.int .i64 18, .int .i64 d, .int .i64 a, .int .i64 i] 124)) #[.int .i64 0, .int .i64 0] 141
  simp only [World.size_alloc] at ke
  have H0 := h.below hB0
  have hlt := h.pr.blk.lt
  have HBB := hide h.bb
  have hG : w.heap.size + 1 ≠ g := by omega
  have hbG : base ≤ w.heap.size + 1 := by have := h.bb; omega
  have T0 : Turn (fun j => base ≤ j) w _ := turn_below hB0
  have K0 : Keeps g w _ := keeps_below hB0
  have HL := hide (fun w (h : Pm w g base pc rg a1 a2 a3 n1 c1 n2 c2 n3 c3 x1 x2 x3 ra rn rc rs) => pstore_any 18 d a i 2 g base pc rg a1 a2 a3 n1 c1 n2 c2 n3 c3 x1 x2 x3 ra rn rc rs w h d0 d1 a0 a7 i0 i1)
  generalize sto pc rg n1 n2 n3 x1 x2 x3 rs rn d a i 2 = r at *
  obtain ⟨did, num, pc', rg', y1, y2, y3⟩ := r
  clear h hB0
  obtain ⟨k1, k2, k3, k4, k5⟩ := kb.four'
  obtain ⟨e1, e2, e3⟩ := ke.two'
  go_enter Tryz.func247, Tryz.ntmps247
  go_wp2_with fail
  refine (HL.out _ H0).mono ?_
  rintro e w9 ⟨b3, m3, d3, rfl, H9, t9, q9⟩
  dsimp only at H9
  have ke9 := q9 _ _ _ ke hG (by decide)
  obtain ⟨hp, y0', y1'⟩ := op_done H9 ke9 hG hbG (T0.trans t9) (K0.trans q9) (by omega) did num
  have HX := hide hp
  clear e1 e2 e3
  obtain ⟨e1, e2, e3⟩ := ke9.two'
  clear hp H9 ke9 k1 k2 k3 k4 k5 H0
  go_wp2
  exact bodyPost_ret (v := .agg #[.int .i64 did, .int .i64 num]) (by simp [results, Tryz.results247, go_sem, y0', y1']) rfl HX.out

set_option maxHeartbeats 1000000 in
theorem op19_any (d a i : Int) (g base : Nat) (pc : Int) (rg : List Int) (a1 a2 a3 : Option Addr) (n1 c1 n2 c2 n3 c3 : Nat) (x1 x2 x3 : List Int) (ra : Option Addr) (rn rc : Nat) (rs : List Rg) (w : World) (h : Pm w g base pc rg a1 a2 a3 n1 c1 n2 c2 n3 c3 x1 x2 x3 ra rn rc rs) (d0 : 0 ≤ d) (d1 : d ≤ 7) (a0 : 0 ≤ a) (a7 : a ≤ 7) (i0 : 0 ≤ i) (i1 : i ≤ 65535) :
    Calls Tryz.prog 248 #[.pointer (some ⟨g, 0, none⟩), .agg #[.int .i64 19, .int .i64 d, .int .i64 a, .int .i64 i]] w (OpPost w g base a1 a2 n1 c1 n2 c2 ra rn rc rs (sto pc rg n1 n2 n3 x1 x2 x3 rs rn d a i 4)) := by
  have hB0 : Below w.heap.size w ((w.alloc (.cells #[.int .i64 19, .int .i64 d, .int .i64 a, .int .i64 i] 124)).alloc (.cells #[.int .i64 0, .int .i64 0] 141)) := ((Below.refl _ _).alloc (Nat.le_refl _) _).alloc (by simp) _
  have kb := (Blk.new w #[.int .i64 19, .int .i64 d, .int .i64 a, .int .i64 i] 124).alloc (.cells #[.int .i64 0, .int .i64 0] 141)
  have ke := Blk.new (w.alloc (.cells #[.int .i64 19, .int .i64 d, .int .i64 a, .int .i64 i] 124)) #[.int .i64 0, .int .i64 0] 141
  simp only [World.size_alloc] at ke
  have H0 := h.below hB0
  have hlt := h.pr.blk.lt
  have HBB := hide h.bb
  have hG : w.heap.size + 1 ≠ g := by omega
  have hbG : base ≤ w.heap.size + 1 := by have := h.bb; omega
  have T0 : Turn (fun j => base ≤ j) w _ := turn_below hB0
  have K0 : Keeps g w _ := keeps_below hB0
  have HL := hide (fun w (h : Pm w g base pc rg a1 a2 a3 n1 c1 n2 c2 n3 c3 x1 x2 x3 ra rn rc rs) => pstore_any 19 d a i 4 g base pc rg a1 a2 a3 n1 c1 n2 c2 n3 c3 x1 x2 x3 ra rn rc rs w h d0 d1 a0 a7 i0 i1)
  generalize sto pc rg n1 n2 n3 x1 x2 x3 rs rn d a i 4 = r at *
  obtain ⟨did, num, pc', rg', y1, y2, y3⟩ := r
  clear h hB0
  obtain ⟨k1, k2, k3, k4, k5⟩ := kb.four'
  obtain ⟨e1, e2, e3⟩ := ke.two'
  go_enter Tryz.func248, Tryz.ntmps248
  go_wp2_with fail
  refine (HL.out _ H0).mono ?_
  rintro e w9 ⟨b3, m3, d3, rfl, H9, t9, q9⟩
  dsimp only at H9
  have ke9 := q9 _ _ _ ke hG (by decide)
  obtain ⟨hp, y0', y1'⟩ := op_done H9 ke9 hG hbG (T0.trans t9) (K0.trans q9) (by omega) did num
  have HX := hide hp
  clear e1 e2 e3
  obtain ⟨e1, e2, e3⟩ := ke9.two'
  clear hp H9 ke9 k1 k2 k3 k4 k5 H0
  go_wp2
  exact bodyPost_ret (v := .agg #[.int .i64 did, .int .i64 num]) (by simp [results, Tryz.results248, go_sem, y0', y1']) rfl HX.out

set_option maxHeartbeats 1000000 in
theorem op20_any (d a i : Int) (g base : Nat) (pc : Int) (rg : List Int) (a1 a2 a3 : Option Addr) (n1 c1 n2 c2 n3 c3 : Nat) (x1 x2 x3 : List Int) (ra : Option Addr) (rn rc : Nat) (rs : List Rg) (w : World) (h : Pm w g base pc rg a1 a2 a3 n1 c1 n2 c2 n3 c3 x1 x2 x3 ra rn rc rs) (d0 : 0 ≤ d) (d1 : d ≤ 7) (a0 : 0 ≤ a) (a7 : a ≤ 7) (i0 : 0 ≤ i) (i1 : i ≤ 65535) :
    Calls Tryz.prog 249 #[.pointer (some ⟨g, 0, none⟩), .agg #[.int .i64 20, .int .i64 d, .int .i64 a, .int .i64 i]] w (OpPost w g base a1 a2 n1 c1 n2 c2 ra rn rc rs ⟨0, 0, if jmp 20 (rg.getD d.toNat 0) then (pc + 4 + 4 * wide i) % 4294967296 else (pc + 4) % 4294967296, rg, x1, x2, x3⟩) := by
  have hB0 : Below w.heap.size w ((w.alloc (.cells #[.int .i64 20, .int .i64 d, .int .i64 a, .int .i64 i] 124)).alloc (.cells #[.int .i64 0, .int .i64 0] 141)) := ((Below.refl _ _).alloc (Nat.le_refl _) _).alloc (by simp) _
  have kb := (Blk.new w #[.int .i64 20, .int .i64 d, .int .i64 a, .int .i64 i] 124).alloc (.cells #[.int .i64 0, .int .i64 0] 141)
  have ke := Blk.new (w.alloc (.cells #[.int .i64 20, .int .i64 d, .int .i64 a, .int .i64 i] 124)) #[.int .i64 0, .int .i64 0] 141
  simp only [World.size_alloc] at ke
  have H0 := h.below hB0
  have hlt := h.pr.blk.lt
  have HBB := hide h.bb
  have hG : w.heap.size + 1 ≠ g := by omega
  have hbG : base ≤ w.heap.size + 1 := by have := h.bb; omega
  have T0 : Turn (fun j => base ≤ j) w _ := turn_below hB0
  have K0 : Keeps g w _ := keeps_below hB0
  obtain ⟨z0, z1⟩ := h.pr.range d.toNat
  have HD := hide (fun w h => pd_any 20 d a i g pc rg (.slice a1 n1 c1) (.slice a2 n2 c2) (.slice a3 n3 c3) (.slice ra rn rc) w h d0 d1)
  generalize rg.getD d.toNat 0 = z at *
  obtain ⟨q, hq⟩ : ∃ q, q = if jmp 20 z then (pc + 4 + 4 * wide i) % 4294967296 else (pc + 4) % 4294967296 := ⟨_, rfl⟩
  rw [← hq]
  have HJ := hide (fun (w : World) (t : Bool) (ht : t = jmp 20 z) h => pjump_eq 20 d a i t (jmp 20 z) q g pc rg (.slice a1 n1 c1) (.slice a2 n2 c2) (.slice a3 n3 c3) (.slice ra rn rc) w ht hq h i0 i1)
  clear hq
  have EQ := hide (show ∀ t : Bool, t = true → t = jmp 20 z from fun t ht => by rw [ht]; simp [jmp])
  clear h hB0
  obtain ⟨k1, k2, k3, k4, k5⟩ := kb.four'
  obtain ⟨e1, e2, e3⟩ := ke.two'
  go_enter Tryz.func249, Tryz.ntmps249
  go_wp2_with fail
  refine (HJ.out _ _ (by first | exact EQ.out _ rfl | exact EQ.out _ (by simp)) (by exact ⟨H0.pr.blk, H0.pr.len, H0.pr.pcw, H0.pr.rgw⟩)).mono ?_
  rintro e w9 ⟨rfl, p9, t9⟩
  have H9 := H0.turn t9 p9
  have ke9 := turn_blk t9 ke (fun e => hG e)
  have T9 := T0.trans (turn_base t9 HBB.out)
  obtain ⟨hp, y0', y1'⟩ := op_done H9 ke9 hG hbG T9 (K0.trans (keeps_turn t9)) (by omega) (0) (0)
  have HX := hide hp
  clear e1 e2 e3
  obtain ⟨e1, e2, e3⟩ := ke9.two'
  clear hp H9 T9 ke9 k1 k2 k3 k4 k5
  go_wp2
  exact bodyPost_ret (v := .agg #[.int .i64 (0), .int .i64 (0)]) (by simp [results, Tryz.results249, go_sem, y0', y1']) rfl HX.out

set_option maxHeartbeats 1000000 in
theorem op21_any (d a i : Int) (g base : Nat) (pc : Int) (rg : List Int) (a1 a2 a3 : Option Addr) (n1 c1 n2 c2 n3 c3 : Nat) (x1 x2 x3 : List Int) (ra : Option Addr) (rn rc : Nat) (rs : List Rg) (w : World) (h : Pm w g base pc rg a1 a2 a3 n1 c1 n2 c2 n3 c3 x1 x2 x3 ra rn rc rs) (d0 : 0 ≤ d) (d1 : d ≤ 7) (a0 : 0 ≤ a) (a7 : a ≤ 7) (i0 : 0 ≤ i) (i1 : i ≤ 65535) :
    Calls Tryz.prog 251 #[.pointer (some ⟨g, 0, none⟩), .agg #[.int .i64 21, .int .i64 d, .int .i64 a, .int .i64 i]] w (OpPost w g base a1 a2 n1 c1 n2 c2 ra rn rc rs ⟨0, 0, if jmp 21 (rg.getD d.toNat 0) then (pc + 4 + 4 * wide i) % 4294967296 else (pc + 4) % 4294967296, rg, x1, x2, x3⟩) := by
  have hB0 : Below w.heap.size w ((w.alloc (.cells #[.int .i64 21, .int .i64 d, .int .i64 a, .int .i64 i] 124)).alloc (.cells #[.int .i64 0, .int .i64 0] 141)) := ((Below.refl _ _).alloc (Nat.le_refl _) _).alloc (by simp) _
  have kb := (Blk.new w #[.int .i64 21, .int .i64 d, .int .i64 a, .int .i64 i] 124).alloc (.cells #[.int .i64 0, .int .i64 0] 141)
  have ke := Blk.new (w.alloc (.cells #[.int .i64 21, .int .i64 d, .int .i64 a, .int .i64 i] 124)) #[.int .i64 0, .int .i64 0] 141
  simp only [World.size_alloc] at ke
  have H0 := h.below hB0
  have hlt := h.pr.blk.lt
  have HBB := hide h.bb
  have hG : w.heap.size + 1 ≠ g := by omega
  have hbG : base ≤ w.heap.size + 1 := by have := h.bb; omega
  have T0 : Turn (fun j => base ≤ j) w _ := turn_below hB0
  have K0 : Keeps g w _ := keeps_below hB0
  obtain ⟨z0, z1⟩ := h.pr.range d.toNat
  have HD := hide (fun w h => pd_any 21 d a i g pc rg (.slice a1 n1 c1) (.slice a2 n2 c2) (.slice a3 n3 c3) (.slice ra rn rc) w h d0 d1)
  generalize rg.getD d.toNat 0 = z at *
  obtain ⟨q, hq⟩ : ∃ q, q = if jmp 21 z then (pc + 4 + 4 * wide i) % 4294967296 else (pc + 4) % 4294967296 := ⟨_, rfl⟩
  rw [← hq]
  have HJ := hide (fun (w : World) (t : Bool) (ht : t = jmp 21 z) h => pjump_eq 21 d a i t (jmp 21 z) q g pc rg (.slice a1 n1 c1) (.slice a2 n2 c2) (.slice a3 n3 c3) (.slice ra rn rc) w ht hq h i0 i1)
  clear hq
  have EQ := hide (show ∀ t : Bool, t = (z == 0) → t = jmp 21 z from fun t ht => by rw [ht, Bool.eq_iff_iff]; simp [jmp])
  clear h hB0
  obtain ⟨k1, k2, k3, k4, k5⟩ := kb.four'
  obtain ⟨e1, e2, e3⟩ := ke.two'
  go_enter Tryz.func251, Tryz.ntmps251
  go_wp2_with fail
  go_region_held3 (fun w' => w'.cell? ⟨w.heap.size, 0, none⟩ = some (.int .i64 21) ∧ w'.cell? ⟨w.heap.size, 1, none⟩ = some (.int .i64 d) ∧ w'.cell? ⟨w.heap.size, 2, none⟩ = some (.int .i64 a) ∧ w'.cell? ⟨w.heap.size, 3, none⟩ = some (.int .i64 i)) (go_keep)
    (first
      | (go_at_call 228; refine (HD.out _ (by exact ⟨H0.pr.blk, H0.pr.len, H0.pr.pcw, H0.pr.rgw⟩)).mono ?_; rintro e w1 ⟨rfl, hb1⟩; (try replace hb1 := undrew hb1); have H1 := H0.below hb1; have B1 := hb1; obtain ⟨k1, k2, k3, k4, k5⟩ := (kb.below B1).four'; obtain ⟨e1, e2, e3⟩ := (ke.below B1).two')
      | (go_at_call 250; refine (HJ.out _ _ (by first | exact EQ.out _ rfl | exact EQ.out _ (by simp)) (by exact ⟨H1.pr.blk, H1.pr.len, H1.pr.pcw, H1.pr.rgw⟩)).mono ?_; rintro e w9 ⟨rfl, p9, t9⟩; have H9 := H1.turn t9 p9; have ke9 := turn_blk t9 (ke.below B1) (fun e => hG e); have T9 := (T0.trans (turn_below B1)).trans (turn_base t9 HBB.out); obtain ⟨hp, y0', y1'⟩ := op_done H9 ke9 hG hbG T9 ((K0.trans (keeps_below B1)).trans (keeps_turn t9)) (by omega) (0) (0); have HX := hide hp; obtain ⟨e1, e2, e3⟩ := ke9.two'; clear hp H9 T9 ke9; obtain ⟨k1, k2, k3, k4, k5⟩ := (turn_blk t9 (kb.below B1) (fun e => by have e' : w.heap.size = g := e; omega)).four'))
  all_goals
    go_wp2
    exact bodyPost_ret (v := .agg #[.int .i64 (0), .int .i64 (0)]) (by simp [results, Tryz.results251, go_sem, y0', y1']) rfl HX.out

set_option maxHeartbeats 1000000 in
theorem op22_any (d a i : Int) (g base : Nat) (pc : Int) (rg : List Int) (a1 a2 a3 : Option Addr) (n1 c1 n2 c2 n3 c3 : Nat) (x1 x2 x3 : List Int) (ra : Option Addr) (rn rc : Nat) (rs : List Rg) (w : World) (h : Pm w g base pc rg a1 a2 a3 n1 c1 n2 c2 n3 c3 x1 x2 x3 ra rn rc rs) (d0 : 0 ≤ d) (d1 : d ≤ 7) (a0 : 0 ≤ a) (a7 : a ≤ 7) (i0 : 0 ≤ i) (i1 : i ≤ 65535) :
    Calls Tryz.prog 252 #[.pointer (some ⟨g, 0, none⟩), .agg #[.int .i64 22, .int .i64 d, .int .i64 a, .int .i64 i]] w (OpPost w g base a1 a2 n1 c1 n2 c2 ra rn rc rs ⟨0, 0, if jmp 22 (rg.getD d.toNat 0) then (pc + 4 + 4 * wide i) % 4294967296 else (pc + 4) % 4294967296, rg, x1, x2, x3⟩) := by
  have hB0 : Below w.heap.size w ((w.alloc (.cells #[.int .i64 22, .int .i64 d, .int .i64 a, .int .i64 i] 124)).alloc (.cells #[.int .i64 0, .int .i64 0] 141)) := ((Below.refl _ _).alloc (Nat.le_refl _) _).alloc (by simp) _
  have kb := (Blk.new w #[.int .i64 22, .int .i64 d, .int .i64 a, .int .i64 i] 124).alloc (.cells #[.int .i64 0, .int .i64 0] 141)
  have ke := Blk.new (w.alloc (.cells #[.int .i64 22, .int .i64 d, .int .i64 a, .int .i64 i] 124)) #[.int .i64 0, .int .i64 0] 141
  simp only [World.size_alloc] at ke
  have H0 := h.below hB0
  have hlt := h.pr.blk.lt
  have HBB := hide h.bb
  have hG : w.heap.size + 1 ≠ g := by omega
  have hbG : base ≤ w.heap.size + 1 := by have := h.bb; omega
  have T0 : Turn (fun j => base ≤ j) w _ := turn_below hB0
  have K0 : Keeps g w _ := keeps_below hB0
  obtain ⟨z0, z1⟩ := h.pr.range d.toNat
  have HD := hide (fun w h => pd_any 22 d a i g pc rg (.slice a1 n1 c1) (.slice a2 n2 c2) (.slice a3 n3 c3) (.slice ra rn rc) w h d0 d1)
  generalize rg.getD d.toNat 0 = z at *
  obtain ⟨q, hq⟩ : ∃ q, q = if jmp 22 z then (pc + 4 + 4 * wide i) % 4294967296 else (pc + 4) % 4294967296 := ⟨_, rfl⟩
  rw [← hq]
  have HJ := hide (fun (w : World) (t : Bool) (ht : t = jmp 22 z) h => pjump_eq 22 d a i t (jmp 22 z) q g pc rg (.slice a1 n1 c1) (.slice a2 n2 c2) (.slice a3 n3 c3) (.slice ra rn rc) w ht hq h i0 i1)
  clear hq
  have EQ := hide (show ∀ t : Bool, t = (z / 2147483648 == 1) → t = jmp 22 z from fun t ht => by rw [ht, Bool.eq_iff_iff]; simp [jmp]; omega)
  clear h hB0
  obtain ⟨k1, k2, k3, k4, k5⟩ := kb.four'
  obtain ⟨e1, e2, e3⟩ := ke.two'
  go_enter Tryz.func252, Tryz.ntmps252
  go_wp2_with fail
  go_region_held3 (fun w' => w'.cell? ⟨w.heap.size, 0, none⟩ = some (.int .i64 22) ∧ w'.cell? ⟨w.heap.size, 1, none⟩ = some (.int .i64 d) ∧ w'.cell? ⟨w.heap.size, 2, none⟩ = some (.int .i64 a) ∧ w'.cell? ⟨w.heap.size, 3, none⟩ = some (.int .i64 i)) (go_keep)
    (first
      | (go_at_call 228; refine (HD.out _ (by exact ⟨H0.pr.blk, H0.pr.len, H0.pr.pcw, H0.pr.rgw⟩)).mono ?_; rintro e w1 ⟨rfl, hb1⟩; (try replace hb1 := undrew hb1); have H1 := H0.below hb1; have B1 := hb1; obtain ⟨k1, k2, k3, k4, k5⟩ := (kb.below B1).four'; obtain ⟨e1, e2, e3⟩ := (ke.below B1).two')
      | (go_at_call 250; refine (HJ.out _ _ (by first | exact EQ.out _ rfl | exact EQ.out _ (by simp)) (by exact ⟨H1.pr.blk, H1.pr.len, H1.pr.pcw, H1.pr.rgw⟩)).mono ?_; rintro e w9 ⟨rfl, p9, t9⟩; have H9 := H1.turn t9 p9; have ke9 := turn_blk t9 (ke.below B1) (fun e => hG e); have T9 := (T0.trans (turn_below B1)).trans (turn_base t9 HBB.out); obtain ⟨hp, y0', y1'⟩ := op_done H9 ke9 hG hbG T9 ((K0.trans (keeps_below B1)).trans (keeps_turn t9)) (by omega) (0) (0); have HX := hide hp; obtain ⟨e1, e2, e3⟩ := ke9.two'; clear hp H9 T9 ke9; obtain ⟨k1, k2, k3, k4, k5⟩ := (turn_blk t9 (kb.below B1) (fun e => by have e' : w.heap.size = g := e; omega)).four'))
  all_goals
    go_wp2
    exact bodyPost_ret (v := .agg #[.int .i64 (0), .int .i64 (0)]) (by simp [results, Tryz.results252, go_sem, y0', y1']) rfl HX.out

set_option maxHeartbeats 1000000 in
theorem op23_any (d a i : Int) (g base : Nat) (pc : Int) (rg : List Int) (a1 a2 a3 : Option Addr) (n1 c1 n2 c2 n3 c3 : Nat) (x1 x2 x3 : List Int) (ra : Option Addr) (rn rc : Nat) (rs : List Rg) (w : World) (h : Pm w g base pc rg a1 a2 a3 n1 c1 n2 c2 n3 c3 x1 x2 x3 ra rn rc rs) (d0 : 0 ≤ d) (d1 : d ≤ 7) (a0 : 0 ≤ a) (a7 : a ≤ 7) (i0 : 0 ≤ i) (i1 : i ≤ 65535) :
    Calls Tryz.prog 253 #[.pointer (some ⟨g, 0, none⟩), .agg #[.int .i64 23, .int .i64 d, .int .i64 a, .int .i64 i]] w (OpPost w g base a1 a2 n1 c1 n2 c2 ra rn rc rs ⟨2, (pc + 4 + 4 * wide i) % 4294967296, (pc + 4) % 4294967296, rg, x1, x2, x3⟩) := by
  have hB0 : Below w.heap.size w ((w.alloc (.cells #[.int .i64 23, .int .i64 d, .int .i64 a, .int .i64 i] 124)).alloc (.cells #[.int .i64 0, .int .i64 0] 141)) := ((Below.refl _ _).alloc (Nat.le_refl _) _).alloc (by simp) _
  have kb := (Blk.new w #[.int .i64 23, .int .i64 d, .int .i64 a, .int .i64 i] 124).alloc (.cells #[.int .i64 0, .int .i64 0] 141)
  have ke := Blk.new (w.alloc (.cells #[.int .i64 23, .int .i64 d, .int .i64 a, .int .i64 i] 124)) #[.int .i64 0, .int .i64 0] 141
  simp only [World.size_alloc] at ke
  have H0 := h.below hB0
  have hlt := h.pr.blk.lt
  have HBB := hide h.bb
  have hG : w.heap.size + 1 ≠ g := by omega
  have hbG : base ≤ w.heap.size + 1 := by have := h.bb; omega
  have T0 : Turn (fun j => base ≤ j) w _ := turn_below hB0
  have K0 : Keeps g w _ := keeps_below hB0
  have HG := hide (fun w h => ptarget_any 23 d a i g pc rg (.slice a1 n1 c1) (.slice a2 n2 c2) (.slice a3 n3 c3) (.slice ra rn rc) w h i0 i1)
  obtain ⟨q, hq⟩ : ∃ q, q = (pc + 4 + 4 * wide i) % 4294967296 := ⟨_, rfl⟩
  rw [← hq] at HG ⊢
  have q0 : 0 ≤ q ∧ q ≤ 4294967295 := by omega
  clear hq
  obtain ⟨q0, q1⟩ := q0
  have HL := hide (fun (w : World) (u : Int) (hu : u = q) h => pleave_eq 2 q u hu g pc rg (.slice a1 n1 c1) (.slice a2 n2 c2) (.slice a3 n3 c3) (.slice ra rn rc) w h)
  have EQ := hide (show ∀ u : Int, u = IntKind.i64.wrap q → u = q from fun u hu => by rw [hu, IntKind.wrap_i64]; omega)
  clear h hB0
  obtain ⟨k1, k2, k3, k4, k5⟩ := kb.four'
  obtain ⟨e1, e2, e3⟩ := ke.two'
  go_enter Tryz.func253, Tryz.ntmps253
  go_wp2_with fail
  refine (HG.out _ (by exact ⟨H0.pr.blk, H0.pr.len, H0.pr.pcw, H0.pr.rgw⟩)).mono ?_
  rintro e w1 ⟨rfl, hb1⟩
  have H1 := H0.below hb1
  have ke1 := ke.below hb1
  clear k1 k2 k3 k4 k5
  obtain ⟨k1, k2, k3, k4, k5⟩ := (kb.below hb1).four'
  have T1 := T0.trans (turn_below hb1)
  have K1 := K0.trans (keeps_below hb1)
  go_wp2_with fail
  refine (HL.out _ _ (by first | exact EQ.out _ rfl | rfl) (by exact ⟨H1.pr.blk, H1.pr.len, H1.pr.pcw, H1.pr.rgw⟩)).mono ?_
  rintro e w9 ⟨rfl, p9, t9⟩
  have H9 := H1.turn t9 p9
  have ke9 := turn_blk t9 ke1 (fun e => hG e)
  have T9 := T1.trans (turn_base t9 HBB.out)
  obtain ⟨hp, y0', y1'⟩ := op_done H9 ke9 hG hbG T9 (K1.trans (keeps_turn t9)) (by omega) (2) (q)
  have HX := hide hp
  clear e1 e2 e3
  obtain ⟨e1, e2, e3⟩ := ke9.two'
  clear hp H9 T9 ke9 k1 k2 k3 k4 k5
  go_wp2
  exact bodyPost_ret (v := .agg #[.int .i64 (2), .int .i64 (q)]) (by simp [results, Tryz.results253, go_sem, y0', y1']) rfl HX.out
end Go.Proofs.YtngdgogjlpjjpadGreat
