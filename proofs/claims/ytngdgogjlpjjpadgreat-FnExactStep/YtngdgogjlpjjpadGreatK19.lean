import Derived.Test.YtngdgogjlpjjpadGreatK18
import Derived.Test.YtngdgogjlpjjpadGreatK17
namespace Go.Proofs.YtngdgogjlpjjpadGreat
open Go.RowKit
set_option linter.unusedVariables false
set_option linter.unusedSimpArgs false
set_option maxRecDepth 100000

theorem bits_xor_nat (k : IntKind) (j : Nat) (hj : j ≤ k.bits) (hk : ∀ n : Int, 0 ≤ n → n < 2 ^ j → k.wrap n = n) (a b : Nat) (ha : a < 2 ^ j) (hb : b < 2 ^ j) : bits .xor k a b = ((a ^^^ b : Nat) : Int) := by
  have hp : 2 ^ j ≤ 2 ^ k.bits := Nat.pow_le_pow_right (by decide) hj
  have ha' : a % 2 ^ k.bits = a := Nat.mod_eq_of_lt (Nat.lt_of_lt_of_le ha hp)
  have hb' : b % 2 ^ k.bits = b := Nat.mod_eq_of_lt (Nat.lt_of_lt_of_le hb hp)
  simp only [bits, BitVec.ofInt_natCast, BitVec.toNat_xor, BitVec.toNat_ofNat, ha', hb']
  exact hk _ (Int.natCast_nonneg _) (by exact_mod_cast Nat.xor_lt_two_pow ha hb)
theorem wraps32 (n : Int) (h₀ : 0 ≤ n) (h₁ : n < 2 ^ 32) : IntKind.u32.wrap n = n := by
  rw [IntKind.wrap_u32]; omega
theorem bits_all (op : BinOp) (ho : op = .and ∨ op = .or ∨ op = .xor) (x y : Int) (x0 : 0 ≤ x) (x1 : x ≤ 4294967295) (y0 : 0 ≤ y) (y1 : y ≤ 4294967295) : bits op .u32 x y = bits op .i64 x y ∧ 0 ≤ bits op .i64 x y ∧ bits op .i64 x y ≤ 4294967295 := by
  obtain ⟨a, rfl⟩ := Int.eq_ofNat_of_zero_le x0
  obtain ⟨b, rfl⟩ := Int.eq_ofNat_of_zero_le y0
  have ha : a < 2 ^ 32 := by omega
  have hb : b < 2 ^ 32 := by omega
  have ha6 : a < 2 ^ 62 := by omega
  have hb6 : b < 2 ^ 62 := by omega
  have n1 := bits_nat .u32 32 (by decide) wraps32 a b ha hb
  have n2 := bits_nat .i64 62 (by decide) wraps62 a b ha6 hb6
  have n3 := bits_xor_nat .u32 32 (by decide) wraps32 a b ha hb
  have n4 := bits_xor_nat .i64 62 (by decide) wraps62 a b ha6 hb6
  have l1 := Nat.and_lt_two_pow a hb
  have l2 := Nat.or_lt_two_pow ha hb
  have l3 := Nat.xor_lt_two_pow ha hb
  rcases ho with rfl | rfl | rfl
  · rw [n1.1, n2.1]; exact ⟨rfl, by omega, by omega⟩
  · rw [n1.2, n2.2]; exact ⟨rfl, by omega, by omega⟩
  · rw [n3, n4]; exact ⟨rfl, by omega, by omega⟩

set_option maxHeartbeats 1000000 in
theorem op6_any (d a i : Int) (g base : Nat) (pc : Int) (rg : List Int) (a1 a2 a3 : Option Addr) (n1 c1 n2 c2 n3 c3 : Nat) (x1 x2 x3 : List Int) (ra : Option Addr) (rn rc : Nat) (rs : List Rg) (w : World) (h : Pm w g base pc rg a1 a2 a3 n1 c1 n2 c2 n3 c3 x1 x2 x3 ra rn rc rs) (d0 : 0 ≤ d) (d1 : d ≤ 7) (a0 : 0 ≤ a) (a7 : a ≤ 7) (i0 : 0 ≤ i) (i1 : i ≤ 65535) :
    Calls Tryz.prog 232 #[.pointer (some ⟨g, 0, none⟩), .agg #[.int .i64 6, .int .i64 d, .int .i64 a, .int .i64 i]] w (OpPost w g base a1 a2 n1 c1 n2 c2 ra rn rc rs ⟨0, 0, (pc + 4) % 4294967296, rg.set d.toNat (alu 6 i (rg.getD d.toNat 0) (rg.getD a.toNat 0)), x1, x2, x3⟩) := by
  have hB0 : Below w.heap.size w ((w.alloc (.cells #[.int .i64 6, .int .i64 d, .int .i64 a, .int .i64 i] 124)).alloc (.cells #[.int .i64 0, .int .i64 0] 141)) := ((Below.refl _ _).alloc (Nat.le_refl _) _).alloc (by simp) _
  have kb := (Blk.new w #[.int .i64 6, .int .i64 d, .int .i64 a, .int .i64 i] 124).alloc (.cells #[.int .i64 0, .int .i64 0] 141)
  have ke := Blk.new (w.alloc (.cells #[.int .i64 6, .int .i64 d, .int .i64 a, .int .i64 i] 124)) #[.int .i64 0, .int .i64 0] 141
  simp only [World.size_alloc] at ke
  have H0 := h.below hB0
  have hlt := h.pr.blk.lt
  have HBB := hide h.bb
  have hG : w.heap.size + 1 ≠ g := by omega
  have hbG : base ≤ w.heap.size + 1 := by have := h.bb; omega
  have T0 : Turn (fun j => base ≤ j) w _ := turn_below hB0
  have K0 : Keeps g w _ := keeps_below hB0
  obtain ⟨z0, z1⟩ := h.pr.range d.toNat
  obtain ⟨y0, y1⟩ := h.pr.range a.toNat
  have HD := hide (fun w h => pd_any 6 d a i g pc rg (.slice a1 n1 c1) (.slice a2 n2 c2) (.slice a3 n3 c3) (.slice ra rn rc) w h d0 d1)
  have HA := hide (fun w h => pa_any 6 d a i g pc rg (.slice a1 n1 c1) (.slice a2 n2 c2) (.slice a3 n3 c3) (.slice ra rn rc) w h a0 a7)
  have HN := hide (fun w h => pnear_any 6 d a i g pc rg (.slice a1 n1 c1) (.slice a2 n2 c2) (.slice a3 n3 c3) (.slice ra rn rc) w h a0 a7 i0 i1)
  generalize rg.getD d.toNat 0 = z at *
  generalize rg.getD a.toNat 0 = y at *
  obtain ⟨v, hv⟩ : ∃ v, v = alu 6 i z y := ⟨_, rfl⟩
  rw [← hv]
  have hv' : v = (y + wide i) % 4294967296 := hv
  clear hv
  have hvr : 0 ≤ v ∧ v ≤ 4294967295 := by omega
  have EQ := hide (show ∀ u : Int, u = (y + wide i) % 4294967296 → u = v from fun u hu => by rw [hu, hv'])
  have HP := hide (fun (w : World) (u : Int) (hu : u = v) h => pput_eq 6 d a i v u g pc rg (.slice a1 n1 c1) (.slice a2 n2 c2) (.slice a3 n3 c3) (.slice ra rn rc) w hu h d0 d1 hvr.1 hvr.2)
  have HV := hide hv'
  clear hv'
  clear h hB0
  obtain ⟨k1, k2, k3, k4, k5⟩ := kb.four'
  obtain ⟨e1, e2, e3⟩ := ke.two'
  go_enter Tryz.func232, Tryz.ntmps232
  go_wp2_with fail
  go_region_held3 (fun w' => w'.cell? ⟨w.heap.size, 0, none⟩ = some (.int .i64 6) ∧ w'.cell? ⟨w.heap.size, 1, none⟩ = some (.int .i64 d) ∧ w'.cell? ⟨w.heap.size, 2, none⟩ = some (.int .i64 a) ∧ w'.cell? ⟨w.heap.size, 3, none⟩ = some (.int .i64 i)) (go_keep)
    (first
      | (go_at_call 233; refine (HN.out _ (by exact ⟨H0.pr.blk, H0.pr.len, H0.pr.pcw, H0.pr.rgw⟩)).mono ?_; rintro e w1 ⟨rfl, hb1⟩; (try replace hb1 := undrew hb1); have H1 := H0.below hb1; have B1 := hb1; obtain ⟨k1, k2, k3, k4, k5⟩ := (kb.below B1).four'; obtain ⟨e1, e2, e3⟩ := (ke.below B1).two')
      | (go_at_call 226; refine (HP.out _ _ (by first | exact EQ.out _ rfl | exact EQ.out _ (by simp)) (by exact ⟨H1.pr.blk, H1.pr.len, H1.pr.pcw, H1.pr.rgw⟩)).mono ?_; rintro e w9 ⟨rfl, p9, t9⟩; have H9 := H1.turn t9 p9; have ke9 := turn_blk t9 (ke.below B1) (fun e => hG e); have T9 := (T0.trans (turn_below B1)).trans (turn_base t9 HBB.out); obtain ⟨hp, y0', y1'⟩ := op_done H9 ke9 hG hbG T9 ((K0.trans (keeps_below B1)).trans (keeps_turn t9)) (by omega) 0 0; have HX := hide hp; obtain ⟨e1, e2, e3⟩ := ke9.two'; clear hp H9 T9 ke9; obtain ⟨k1, k2, k3, k4, k5⟩ := (turn_blk t9 (kb.below B1) (fun e => by have e' : w.heap.size = g := e; omega)).four'))
  all_goals
    go_wp2
    exact bodyPost_ret (v := .agg #[.int .i64 0, .int .i64 0]) (by simp [results, Tryz.results232, go_sem, y0', y1']) rfl HX.out

set_option maxHeartbeats 1000000 in
theorem op7_any (d a i : Int) (g base : Nat) (pc : Int) (rg : List Int) (a1 a2 a3 : Option Addr) (n1 c1 n2 c2 n3 c3 : Nat) (x1 x2 x3 : List Int) (ra : Option Addr) (rn rc : Nat) (rs : List Rg) (w : World) (h : Pm w g base pc rg a1 a2 a3 n1 c1 n2 c2 n3 c3 x1 x2 x3 ra rn rc rs) (d0 : 0 ≤ d) (d1 : d ≤ 7) (a0 : 0 ≤ a) (a7 : a ≤ 7) (i0 : 0 ≤ i) (i1 : i ≤ 65535) :
    Calls Tryz.prog 234 #[.pointer (some ⟨g, 0, none⟩), .agg #[.int .i64 7, .int .i64 d, .int .i64 a, .int .i64 i]] w (OpPost w g base a1 a2 n1 c1 n2 c2 ra rn rc rs ⟨0, 0, (pc + 4) % 4294967296, rg.set d.toNat (alu 7 i (rg.getD d.toNat 0) (rg.getD a.toNat 0)), x1, x2, x3⟩) := by
  have hB0 : Below w.heap.size w ((w.alloc (.cells #[.int .i64 7, .int .i64 d, .int .i64 a, .int .i64 i] 124)).alloc (.cells #[.int .i64 0, .int .i64 0] 141)) := ((Below.refl _ _).alloc (Nat.le_refl _) _).alloc (by simp) _
  have kb := (Blk.new w #[.int .i64 7, .int .i64 d, .int .i64 a, .int .i64 i] 124).alloc (.cells #[.int .i64 0, .int .i64 0] 141)
  have ke := Blk.new (w.alloc (.cells #[.int .i64 7, .int .i64 d, .int .i64 a, .int .i64 i] 124)) #[.int .i64 0, .int .i64 0] 141
  simp only [World.size_alloc] at ke
  have H0 := h.below hB0
  have hlt := h.pr.blk.lt
  have HBB := hide h.bb
  have hG : w.heap.size + 1 ≠ g := by omega
  have hbG : base ≤ w.heap.size + 1 := by have := h.bb; omega
  have T0 : Turn (fun j => base ≤ j) w _ := turn_below hB0
  have K0 : Keeps g w _ := keeps_below hB0
  obtain ⟨z0, z1⟩ := h.pr.range d.toNat
  obtain ⟨y0, y1⟩ := h.pr.range a.toNat
  have HD := hide (fun w h => pd_any 7 d a i g pc rg (.slice a1 n1 c1) (.slice a2 n2 c2) (.slice a3 n3 c3) (.slice ra rn rc) w h d0 d1)
  have HA := hide (fun w h => pa_any 7 d a i g pc rg (.slice a1 n1 c1) (.slice a2 n2 c2) (.slice a3 n3 c3) (.slice ra rn rc) w h a0 a7)
  have HN := hide (fun w h => pnear_any 7 d a i g pc rg (.slice a1 n1 c1) (.slice a2 n2 c2) (.slice a3 n3 c3) (.slice ra rn rc) w h a0 a7 i0 i1)
  generalize rg.getD d.toNat 0 = z at *
  generalize rg.getD a.toNat 0 = y at *
  obtain ⟨v, hv⟩ : ∃ v, v = alu 7 i z y := ⟨_, rfl⟩
  rw [← hv]
  have hv' : v = (z - y) % 4294967296 := hv
  clear hv
  have hvr : 0 ≤ v ∧ v ≤ 4294967295 := by omega
  have EQ := hide (show ∀ u : Int, u = IntKind.u32.wrap (z - y) → u = v from fun u hu => by rw [hu, hv', IntKind.wrap_u32])
  have HP := hide (fun (w : World) (u : Int) (hu : u = v) h => pput_eq 7 d a i v u g pc rg (.slice a1 n1 c1) (.slice a2 n2 c2) (.slice a3 n3 c3) (.slice ra rn rc) w hu h d0 d1 hvr.1 hvr.2)
  have HV := hide hv'
  clear hv'
  clear h hB0
  obtain ⟨k1, k2, k3, k4, k5⟩ := kb.four'
  obtain ⟨e1, e2, e3⟩ := ke.two'
  go_enter Tryz.func234, Tryz.ntmps234
  go_wp2_with fail
  go_region_held3 (fun w' => w'.cell? ⟨w.heap.size, 0, none⟩ = some (.int .i64 7) ∧ w'.cell? ⟨w.heap.size, 1, none⟩ = some (.int .i64 d) ∧ w'.cell? ⟨w.heap.size, 2, none⟩ = some (.int .i64 a) ∧ w'.cell? ⟨w.heap.size, 3, none⟩ = some (.int .i64 i)) (go_keep)
    (first
      | (go_at_call 228; refine (HD.out _ (by exact ⟨H1.pr.blk, H1.pr.len, H1.pr.pcw, H1.pr.rgw⟩)).mono ?_; rintro e w2 ⟨rfl, hb2⟩; (try replace hb2 := undrew hb2); have H2 := H1.below hb2; have B2 := B1.trans (hb2.mono B1.size); obtain ⟨k1, k2, k3, k4, k5⟩ := (kb.below B2).four'; obtain ⟨e1, e2, e3⟩ := (ke.below B2).two')
      | (go_at_call 228; refine (HD.out _ (by exact ⟨H0.pr.blk, H0.pr.len, H0.pr.pcw, H0.pr.rgw⟩)).mono ?_; rintro e w1 ⟨rfl, hb1⟩; (try replace hb1 := undrew hb1); have H1 := H0.below hb1; have B1 := hb1; obtain ⟨k1, k2, k3, k4, k5⟩ := (kb.below B1).four'; obtain ⟨e1, e2, e3⟩ := (ke.below B1).two')
      | (go_at_call 230; refine (HA.out _ (by exact ⟨H1.pr.blk, H1.pr.len, H1.pr.pcw, H1.pr.rgw⟩)).mono ?_; rintro e w2 ⟨rfl, hb2⟩; (try replace hb2 := undrew hb2); have H2 := H1.below hb2; have B2 := B1.trans (hb2.mono B1.size); obtain ⟨k1, k2, k3, k4, k5⟩ := (kb.below B2).four'; obtain ⟨e1, e2, e3⟩ := (ke.below B2).two')
      | (go_at_call 230; refine (HA.out _ (by exact ⟨H0.pr.blk, H0.pr.len, H0.pr.pcw, H0.pr.rgw⟩)).mono ?_; rintro e w1 ⟨rfl, hb1⟩; (try replace hb1 := undrew hb1); have H1 := H0.below hb1; have B1 := hb1; obtain ⟨k1, k2, k3, k4, k5⟩ := (kb.below B1).four'; obtain ⟨e1, e2, e3⟩ := (ke.below B1).two')
      | (go_at_call 226; refine (HP.out _ _ (by first | exact EQ.out _ rfl | exact EQ.out _ (by simp)) (by exact ⟨H2.pr.blk, H2.pr.len, H2.pr.pcw, H2.pr.rgw⟩)).mono ?_; rintro e w9 ⟨rfl, p9, t9⟩; have H9 := H2.turn t9 p9; have ke9 := turn_blk t9 (ke.below B2) (fun e => hG e); have T9 := (T0.trans (turn_below B2)).trans (turn_base t9 HBB.out); obtain ⟨hp, y0', y1'⟩ := op_done H9 ke9 hG hbG T9 ((K0.trans (keeps_below B2)).trans (keeps_turn t9)) (by omega) 0 0; have HX := hide hp; obtain ⟨e1, e2, e3⟩ := ke9.two'; clear hp H9 T9 ke9; obtain ⟨k1, k2, k3, k4, k5⟩ := (turn_blk t9 (kb.below B2) (fun e => by have e' : w.heap.size = g := e; omega)).four'))
  all_goals
    go_wp2
    exact bodyPost_ret (v := .agg #[.int .i64 0, .int .i64 0]) (by simp [results, Tryz.results234, go_sem, y0', y1']) rfl HX.out

set_option maxHeartbeats 1000000 in
theorem op8_any (d a i : Int) (g base : Nat) (pc : Int) (rg : List Int) (a1 a2 a3 : Option Addr) (n1 c1 n2 c2 n3 c3 : Nat) (x1 x2 x3 : List Int) (ra : Option Addr) (rn rc : Nat) (rs : List Rg) (w : World) (h : Pm w g base pc rg a1 a2 a3 n1 c1 n2 c2 n3 c3 x1 x2 x3 ra rn rc rs) (d0 : 0 ≤ d) (d1 : d ≤ 7) (a0 : 0 ≤ a) (a7 : a ≤ 7) (i0 : 0 ≤ i) (i1 : i ≤ 65535) :
    Calls Tryz.prog 235 #[.pointer (some ⟨g, 0, none⟩), .agg #[.int .i64 8, .int .i64 d, .int .i64 a, .int .i64 i]] w (OpPost w g base a1 a2 n1 c1 n2 c2 ra rn rc rs ⟨0, 0, (pc + 4) % 4294967296, rg.set d.toNat (alu 8 i (rg.getD d.toNat 0) (rg.getD a.toNat 0)), x1, x2, x3⟩) := by
  have hB0 : Below w.heap.size w ((w.alloc (.cells #[.int .i64 8, .int .i64 d, .int .i64 a, .int .i64 i] 124)).alloc (.cells #[.int .i64 0, .int .i64 0] 141)) := ((Below.refl _ _).alloc (Nat.le_refl _) _).alloc (by simp) _
  have kb := (Blk.new w #[.int .i64 8, .int .i64 d, .int .i64 a, .int .i64 i] 124).alloc (.cells #[.int .i64 0, .int .i64 0] 141)
  have ke := Blk.new (w.alloc (.cells #[.int .i64 8, .int .i64 d, .int .i64 a, .int .i64 i] 124)) #[.int .i64 0, .int .i64 0] 141
  simp only [World.size_alloc] at ke
  have H0 := h.below hB0
  have hlt := h.pr.blk.lt
  have HBB := hide h.bb
  have hG : w.heap.size + 1 ≠ g := by omega
  have hbG : base ≤ w.heap.size + 1 := by have := h.bb; omega
  have T0 : Turn (fun j => base ≤ j) w _ := turn_below hB0
  have K0 : Keeps g w _ := keeps_below hB0
  obtain ⟨z0, z1⟩ := h.pr.range d.toNat
  obtain ⟨y0, y1⟩ := h.pr.range a.toNat
  have HD := hide (fun w h => pd_any 8 d a i g pc rg (.slice a1 n1 c1) (.slice a2 n2 c2) (.slice a3 n3 c3) (.slice ra rn rc) w h d0 d1)
  have HA := hide (fun w h => pa_any 8 d a i g pc rg (.slice a1 n1 c1) (.slice a2 n2 c2) (.slice a3 n3 c3) (.slice ra rn rc) w h a0 a7)
  have HN := hide (fun w h => pnear_any 8 d a i g pc rg (.slice a1 n1 c1) (.slice a2 n2 c2) (.slice a3 n3 c3) (.slice ra rn rc) w h a0 a7 i0 i1)
  generalize rg.getD d.toNat 0 = z at *
  generalize rg.getD a.toNat 0 = y at *
  obtain ⟨v, hv⟩ : ∃ v, v = alu 8 i z y := ⟨_, rfl⟩
  rw [← hv]
  have hv' : v = (z * y) % 4294967296 := hv
  clear hv
  have hvr : 0 ≤ v ∧ v ≤ 4294967295 := by omega
  have EQ := hide (show ∀ u : Int, u = IntKind.u32.wrap (z * y) → u = v from fun u hu => by rw [hu, hv', IntKind.wrap_u32])
  have HP := hide (fun (w : World) (u : Int) (hu : u = v) h => pput_eq 8 d a i v u g pc rg (.slice a1 n1 c1) (.slice a2 n2 c2) (.slice a3 n3 c3) (.slice ra rn rc) w hu h d0 d1 hvr.1 hvr.2)
  have HV := hide hv'
  clear hv'
  clear h hB0
  obtain ⟨k1, k2, k3, k4, k5⟩ := kb.four'
  obtain ⟨e1, e2, e3⟩ := ke.two'
  go_enter Tryz.func235, Tryz.ntmps235
  go_wp2_with fail
  go_region_held3 (fun w' => w'.cell? ⟨w.heap.size, 0, none⟩ = some (.int .i64 8) ∧ w'.cell? ⟨w.heap.size, 1, none⟩ = some (.int .i64 d) ∧ w'.cell? ⟨w.heap.size, 2, none⟩ = some (.int .i64 a) ∧ w'.cell? ⟨w.heap.size, 3, none⟩ = some (.int .i64 i)) (go_keep)
    (first
      | (go_at_call 228; refine (HD.out _ (by exact ⟨H1.pr.blk, H1.pr.len, H1.pr.pcw, H1.pr.rgw⟩)).mono ?_; rintro e w2 ⟨rfl, hb2⟩; (try replace hb2 := undrew hb2); have H2 := H1.below hb2; have B2 := B1.trans (hb2.mono B1.size); obtain ⟨k1, k2, k3, k4, k5⟩ := (kb.below B2).four'; obtain ⟨e1, e2, e3⟩ := (ke.below B2).two')
      | (go_at_call 228; refine (HD.out _ (by exact ⟨H0.pr.blk, H0.pr.len, H0.pr.pcw, H0.pr.rgw⟩)).mono ?_; rintro e w1 ⟨rfl, hb1⟩; (try replace hb1 := undrew hb1); have H1 := H0.below hb1; have B1 := hb1; obtain ⟨k1, k2, k3, k4, k5⟩ := (kb.below B1).four'; obtain ⟨e1, e2, e3⟩ := (ke.below B1).two')
      | (go_at_call 230; refine (HA.out _ (by exact ⟨H1.pr.blk, H1.pr.len, H1.pr.pcw, H1.pr.rgw⟩)).mono ?_; rintro e w2 ⟨rfl, hb2⟩; (try replace hb2 := undrew hb2); have H2 := H1.below hb2; have B2 := B1.trans (hb2.mono B1.size); obtain ⟨k1, k2, k3, k4, k5⟩ := (kb.below B2).four'; obtain ⟨e1, e2, e3⟩ := (ke.below B2).two')
      | (go_at_call 230; refine (HA.out _ (by exact ⟨H0.pr.blk, H0.pr.len, H0.pr.pcw, H0.pr.rgw⟩)).mono ?_; rintro e w1 ⟨rfl, hb1⟩; (try replace hb1 := undrew hb1); have H1 := H0.below hb1; have B1 := hb1; obtain ⟨k1, k2, k3, k4, k5⟩ := (kb.below B1).four'; obtain ⟨e1, e2, e3⟩ := (ke.below B1).two')
      | (go_at_call 226; refine (HP.out _ _ (by first | exact EQ.out _ rfl | exact EQ.out _ (by simp)) (by exact ⟨H2.pr.blk, H2.pr.len, H2.pr.pcw, H2.pr.rgw⟩)).mono ?_; rintro e w9 ⟨rfl, p9, t9⟩; have H9 := H2.turn t9 p9; have ke9 := turn_blk t9 (ke.below B2) (fun e => hG e); have T9 := (T0.trans (turn_below B2)).trans (turn_base t9 HBB.out); obtain ⟨hp, y0', y1'⟩ := op_done H9 ke9 hG hbG T9 ((K0.trans (keeps_below B2)).trans (keeps_turn t9)) (by omega) 0 0; have HX := hide hp; obtain ⟨e1, e2, e3⟩ := ke9.two'; clear hp H9 T9 ke9; obtain ⟨k1, k2, k3, k4, k5⟩ := (turn_blk t9 (kb.below B2) (fun e => by have e' : w.heap.size = g := e; omega)).four'))
  all_goals
    go_wp2
    exact bodyPost_ret (v := .agg #[.int .i64 0, .int .i64 0]) (by simp [results, Tryz.results235, go_sem, y0', y1']) rfl HX.out

set_option maxHeartbeats 1000000 in
theorem op9_any (d a i : Int) (g base : Nat) (pc : Int) (rg : List Int) (a1 a2 a3 : Option Addr) (n1 c1 n2 c2 n3 c3 : Nat) (x1 x2 x3 : List Int) (ra : Option Addr) (rn rc : Nat) (rs : List Rg) (w : World) (h : Pm w g base pc rg a1 a2 a3 n1 c1 n2 c2 n3 c3 x1 x2 x3 ra rn rc rs) (d0 : 0 ≤ d) (d1 : d ≤ 7) (a0 : 0 ≤ a) (a7 : a ≤ 7) (i0 : 0 ≤ i) (i1 : i ≤ 65535) :
    Calls Tryz.prog 236 #[.pointer (some ⟨g, 0, none⟩), .agg #[.int .i64 9, .int .i64 d, .int .i64 a, .int .i64 i]] w (OpPost w g base a1 a2 n1 c1 n2 c2 ra rn rc rs ⟨0, 0, (pc + 4) % 4294967296, rg.set d.toNat (alu 9 i (rg.getD d.toNat 0) (rg.getD a.toNat 0)), x1, x2, x3⟩) := by
  have hB0 : Below w.heap.size w ((w.alloc (.cells #[.int .i64 9, .int .i64 d, .int .i64 a, .int .i64 i] 124)).alloc (.cells #[.int .i64 0, .int .i64 0] 141)) := ((Below.refl _ _).alloc (Nat.le_refl _) _).alloc (by simp) _
  have kb := (Blk.new w #[.int .i64 9, .int .i64 d, .int .i64 a, .int .i64 i] 124).alloc (.cells #[.int .i64 0, .int .i64 0] 141)
  have ke := Blk.new (w.alloc (.cells #[.int .i64 9, .int .i64 d, .int .i64 a, .int .i64 i] 124)) #[.int .i64 0, .int .i64 0] 141
  simp only [World.size_alloc] at ke
  have H0 := h.below hB0
  have hlt := h.pr.blk.lt
  have HBB := hide h.bb
  have hG : w.heap.size + 1 ≠ g := by omega
  have hbG : base ≤ w.heap.size + 1 := by have := h.bb; omega
  have T0 : Turn (fun j => base ≤ j) w _ := turn_below hB0
  have K0 : Keeps g w _ := keeps_below hB0
  obtain ⟨z0, z1⟩ := h.pr.range d.toNat
  obtain ⟨y0, y1⟩ := h.pr.range a.toNat
  have HD := hide (fun w h => pd_any 9 d a i g pc rg (.slice a1 n1 c1) (.slice a2 n2 c2) (.slice a3 n3 c3) (.slice ra rn rc) w h d0 d1)
  have HA := hide (fun w h => pa_any 9 d a i g pc rg (.slice a1 n1 c1) (.slice a2 n2 c2) (.slice a3 n3 c3) (.slice ra rn rc) w h a0 a7)
  have HN := hide (fun w h => pnear_any 9 d a i g pc rg (.slice a1 n1 c1) (.slice a2 n2 c2) (.slice a3 n3 c3) (.slice ra rn rc) w h a0 a7 i0 i1)
  generalize rg.getD d.toNat 0 = z at *
  generalize rg.getD a.toNat 0 = y at *
  obtain ⟨v, hv⟩ : ∃ v, v = alu 9 i z y := ⟨_, rfl⟩
  rw [← hv]
  have hv' : v = bits .and .i64 z y := hv
  clear hv
  have hvr : 0 ≤ v ∧ v ≤ 4294967295 := by rw [hv']; exact (bits_all .and (.inl rfl) z y z0 z1 y0 y1).2
  have EQ := hide (show ∀ u : Int, u = bits .and .u32 z y → u = v from fun u hu => by rw [hu, hv']; exact (bits_all .and (.inl rfl) z y z0 z1 y0 y1).1)
  have HP := hide (fun (w : World) (u : Int) (hu : u = v) h => pput_eq 9 d a i v u g pc rg (.slice a1 n1 c1) (.slice a2 n2 c2) (.slice a3 n3 c3) (.slice ra rn rc) w hu h d0 d1 hvr.1 hvr.2)
  have HV := hide hv'
  clear hv'
  clear h hB0
  obtain ⟨k1, k2, k3, k4, k5⟩ := kb.four'
  obtain ⟨e1, e2, e3⟩ := ke.two'
  go_enter Tryz.func236, Tryz.ntmps236
  go_wp2_with fail
  go_region_held3 (fun w' => w'.cell? ⟨w.heap.size, 0, none⟩ = some (.int .i64 9) ∧ w'.cell? ⟨w.heap.size, 1, none⟩ = some (.int .i64 d) ∧ w'.cell? ⟨w.heap.size, 2, none⟩ = some (.int .i64 a) ∧ w'.cell? ⟨w.heap.size, 3, none⟩ = some (.int .i64 i)) (go_keep)
    (first
      | (go_at_call 228; refine (HD.out _ (by exact ⟨H1.pr.blk, H1.pr.len, H1.pr.pcw, H1.pr.rgw⟩)).mono ?_; rintro e w2 ⟨rfl, hb2⟩; (try replace hb2 := undrew hb2); have H2 := H1.below hb2; have B2 := B1.trans (hb2.mono B1.size); obtain ⟨k1, k2, k3, k4, k5⟩ := (kb.below B2).four'; obtain ⟨e1, e2, e3⟩ := (ke.below B2).two')
      | (go_at_call 228; refine (HD.out _ (by exact ⟨H0.pr.blk, H0.pr.len, H0.pr.pcw, H0.pr.rgw⟩)).mono ?_; rintro e w1 ⟨rfl, hb1⟩; (try replace hb1 := undrew hb1); have H1 := H0.below hb1; have B1 := hb1; obtain ⟨k1, k2, k3, k4, k5⟩ := (kb.below B1).four'; obtain ⟨e1, e2, e3⟩ := (ke.below B1).two')
      | (go_at_call 230; refine (HA.out _ (by exact ⟨H1.pr.blk, H1.pr.len, H1.pr.pcw, H1.pr.rgw⟩)).mono ?_; rintro e w2 ⟨rfl, hb2⟩; (try replace hb2 := undrew hb2); have H2 := H1.below hb2; have B2 := B1.trans (hb2.mono B1.size); obtain ⟨k1, k2, k3, k4, k5⟩ := (kb.below B2).four'; obtain ⟨e1, e2, e3⟩ := (ke.below B2).two')
      | (go_at_call 230; refine (HA.out _ (by exact ⟨H0.pr.blk, H0.pr.len, H0.pr.pcw, H0.pr.rgw⟩)).mono ?_; rintro e w1 ⟨rfl, hb1⟩; (try replace hb1 := undrew hb1); have H1 := H0.below hb1; have B1 := hb1; obtain ⟨k1, k2, k3, k4, k5⟩ := (kb.below B1).four'; obtain ⟨e1, e2, e3⟩ := (ke.below B1).two')
      | (go_at_call 226; refine (HP.out _ _ (by first | exact EQ.out _ rfl | exact EQ.out _ (by simp)) (by exact ⟨H2.pr.blk, H2.pr.len, H2.pr.pcw, H2.pr.rgw⟩)).mono ?_; rintro e w9 ⟨rfl, p9, t9⟩; have H9 := H2.turn t9 p9; have ke9 := turn_blk t9 (ke.below B2) (fun e => hG e); have T9 := (T0.trans (turn_below B2)).trans (turn_base t9 HBB.out); obtain ⟨hp, y0', y1'⟩ := op_done H9 ke9 hG hbG T9 ((K0.trans (keeps_below B2)).trans (keeps_turn t9)) (by omega) 0 0; have HX := hide hp; obtain ⟨e1, e2, e3⟩ := ke9.two'; clear hp H9 T9 ke9; obtain ⟨k1, k2, k3, k4, k5⟩ := (turn_blk t9 (kb.below B2) (fun e => by have e' : w.heap.size = g := e; omega)).four'))
  all_goals
    go_wp2
    exact bodyPost_ret (v := .agg #[.int .i64 0, .int .i64 0]) (by simp [results, Tryz.results236, go_sem, y0', y1']) rfl HX.out

set_option maxHeartbeats 1000000 in
theorem op10_any (d a i : Int) (g base : Nat) (pc : Int) (rg : List Int) (a1 a2 a3 : Option Addr) (n1 c1 n2 c2 n3 c3 : Nat) (x1 x2 x3 : List Int) (ra : Option Addr) (rn rc : Nat) (rs : List Rg) (w : World) (h : Pm w g base pc rg a1 a2 a3 n1 c1 n2 c2 n3 c3 x1 x2 x3 ra rn rc rs) (d0 : 0 ≤ d) (d1 : d ≤ 7) (a0 : 0 ≤ a) (a7 : a ≤ 7) (i0 : 0 ≤ i) (i1 : i ≤ 65535) :
    Calls Tryz.prog 237 #[.pointer (some ⟨g, 0, none⟩), .agg #[.int .i64 10, .int .i64 d, .int .i64 a, .int .i64 i]] w (OpPost w g base a1 a2 n1 c1 n2 c2 ra rn rc rs ⟨0, 0, (pc + 4) % 4294967296, rg.set d.toNat (alu 10 i (rg.getD d.toNat 0) (rg.getD a.toNat 0)), x1, x2, x3⟩) := by
  have hB0 : Below w.heap.size w ((w.alloc (.cells #[.int .i64 10, .int .i64 d, .int .i64 a, .int .i64 i] 124)).alloc (.cells #[.int .i64 0, .int .i64 0] 141)) := ((Below.refl _ _).alloc (Nat.le_refl _) _).alloc (by simp) _
  have kb := (Blk.new w #[.int .i64 10, .int .i64 d, .int .i64 a, .int .i64 i] 124).alloc (.cells #[.int .i64 0, .int .i64 0] 141)
  have ke := Blk.new (w.alloc (.cells #[.int .i64 10, .int .i64 d, .int .i64 a, .int .i64 i] 124)) #[.int .i64 0, .int .i64 0] 141
  simp only [World.size_alloc] at ke
  have H0 := h.below hB0
  have hlt := h.pr.blk.lt
  have HBB := hide h.bb
  have hG : w.heap.size + 1 ≠ g := by omega
  have hbG : base ≤ w.heap.size + 1 := by have := h.bb; omega
  have T0 : Turn (fun j => base ≤ j) w _ := turn_below hB0
  have K0 : Keeps g w _ := keeps_below hB0
  obtain ⟨z0, z1⟩ := h.pr.range d.toNat
  obtain ⟨y0, y1⟩ := h.pr.range a.toNat
  have HD := hide (fun w h => pd_any 10 d a i g pc rg (.slice a1 n1 c1) (.slice a2 n2 c2) (.slice a3 n3 c3) (.slice ra rn rc) w h d0 d1)
  have HA := hide (fun w h => pa_any 10 d a i g pc rg (.slice a1 n1 c1) (.slice a2 n2 c2) (.slice a3 n3 c3) (.slice ra rn rc) w h a0 a7)
  have HN := hide (fun w h => pnear_any 10 d a i g pc rg (.slice a1 n1 c1) (.slice a2 n2 c2) (.slice a3 n3 c3) (.slice ra rn rc) w h a0 a7 i0 i1)
  generalize rg.getD d.toNat 0 = z at *
  generalize rg.getD a.toNat 0 = y at *
  obtain ⟨v, hv⟩ : ∃ v, v = alu 10 i z y := ⟨_, rfl⟩
  rw [← hv]
  have hv' : v = bits .or .i64 z y := hv
  clear hv
  have hvr : 0 ≤ v ∧ v ≤ 4294967295 := by rw [hv']; exact (bits_all .or (.inr (.inl rfl)) z y z0 z1 y0 y1).2
  have EQ := hide (show ∀ u : Int, u = bits .or .u32 z y → u = v from fun u hu => by rw [hu, hv']; exact (bits_all .or (.inr (.inl rfl)) z y z0 z1 y0 y1).1)
  have HP := hide (fun (w : World) (u : Int) (hu : u = v) h => pput_eq 10 d a i v u g pc rg (.slice a1 n1 c1) (.slice a2 n2 c2) (.slice a3 n3 c3) (.slice ra rn rc) w hu h d0 d1 hvr.1 hvr.2)
  have HV := hide hv'
  clear hv'
  clear h hB0
  obtain ⟨k1, k2, k3, k4, k5⟩ := kb.four'
  obtain ⟨e1, e2, e3⟩ := ke.two'
  go_enter Tryz.func237, Tryz.ntmps237
  go_wp2_with fail
  go_region_held3 (fun w' => w'.cell? ⟨w.heap.size, 0, none⟩ = some (.int .i64 10) ∧ w'.cell? ⟨w.heap.size, 1, none⟩ = some (.int .i64 d) ∧ w'.cell? ⟨w.heap.size, 2, none⟩ = some (.int .i64 a) ∧ w'.cell? ⟨w.heap.size, 3, none⟩ = some (.int .i64 i)) (go_keep)
    (first
      | (go_at_call 228; refine (HD.out _ (by exact ⟨H1.pr.blk, H1.pr.len, H1.pr.pcw, H1.pr.rgw⟩)).mono ?_; rintro e w2 ⟨rfl, hb2⟩; (try replace hb2 := undrew hb2); have H2 := H1.below hb2; have B2 := B1.trans (hb2.mono B1.size); obtain ⟨k1, k2, k3, k4, k5⟩ := (kb.below B2).four'; obtain ⟨e1, e2, e3⟩ := (ke.below B2).two')
      | (go_at_call 228; refine (HD.out _ (by exact ⟨H0.pr.blk, H0.pr.len, H0.pr.pcw, H0.pr.rgw⟩)).mono ?_; rintro e w1 ⟨rfl, hb1⟩; (try replace hb1 := undrew hb1); have H1 := H0.below hb1; have B1 := hb1; obtain ⟨k1, k2, k3, k4, k5⟩ := (kb.below B1).four'; obtain ⟨e1, e2, e3⟩ := (ke.below B1).two')
      | (go_at_call 230; refine (HA.out _ (by exact ⟨H1.pr.blk, H1.pr.len, H1.pr.pcw, H1.pr.rgw⟩)).mono ?_; rintro e w2 ⟨rfl, hb2⟩; (try replace hb2 := undrew hb2); have H2 := H1.below hb2; have B2 := B1.trans (hb2.mono B1.size); obtain ⟨k1, k2, k3, k4, k5⟩ := (kb.below B2).four'; obtain ⟨e1, e2, e3⟩ := (ke.below B2).two')
      | (go_at_call 230; refine (HA.out _ (by exact ⟨H0.pr.blk, H0.pr.len, H0.pr.pcw, H0.pr.rgw⟩)).mono ?_; rintro e w1 ⟨rfl, hb1⟩; (try replace hb1 := undrew hb1); have H1 := H0.below hb1; have B1 := hb1; obtain ⟨k1, k2, k3, k4, k5⟩ := (kb.below B1).four'; obtain ⟨e1, e2, e3⟩ := (ke.below B1).two')
      | (go_at_call 226; refine (HP.out _ _ (by first | exact EQ.out _ rfl | exact EQ.out _ (by simp)) (by exact ⟨H2.pr.blk, H2.pr.len, H2.pr.pcw, H2.pr.rgw⟩)).mono ?_; rintro e w9 ⟨rfl, p9, t9⟩; have H9 := H2.turn t9 p9; have ke9 := turn_blk t9 (ke.below B2) (fun e => hG e); have T9 := (T0.trans (turn_below B2)).trans (turn_base t9 HBB.out); obtain ⟨hp, y0', y1'⟩ := op_done H9 ke9 hG hbG T9 ((K0.trans (keeps_below B2)).trans (keeps_turn t9)) (by omega) 0 0; have HX := hide hp; obtain ⟨e1, e2, e3⟩ := ke9.two'; clear hp H9 T9 ke9; obtain ⟨k1, k2, k3, k4, k5⟩ := (turn_blk t9 (kb.below B2) (fun e => by have e' : w.heap.size = g := e; omega)).four'))
  all_goals
    go_wp2
    exact bodyPost_ret (v := .agg #[.int .i64 0, .int .i64 0]) (by simp [results, Tryz.results237, go_sem, y0', y1']) rfl HX.out

set_option maxHeartbeats 1000000 in
theorem op11_any (d a i : Int) (g base : Nat) (pc : Int) (rg : List Int) (a1 a2 a3 : Option Addr) (n1 c1 n2 c2 n3 c3 : Nat) (x1 x2 x3 : List Int) (ra : Option Addr) (rn rc : Nat) (rs : List Rg) (w : World) (h : Pm w g base pc rg a1 a2 a3 n1 c1 n2 c2 n3 c3 x1 x2 x3 ra rn rc rs) (d0 : 0 ≤ d) (d1 : d ≤ 7) (a0 : 0 ≤ a) (a7 : a ≤ 7) (i0 : 0 ≤ i) (i1 : i ≤ 65535) :
    Calls Tryz.prog 238 #[.pointer (some ⟨g, 0, none⟩), .agg #[.int .i64 11, .int .i64 d, .int .i64 a, .int .i64 i]] w (OpPost w g base a1 a2 n1 c1 n2 c2 ra rn rc rs ⟨0, 0, (pc + 4) % 4294967296, rg.set d.toNat (alu 11 i (rg.getD d.toNat 0) (rg.getD a.toNat 0)), x1, x2, x3⟩) := by
  have hB0 : Below w.heap.size w ((w.alloc (.cells #[.int .i64 11, .int .i64 d, .int .i64 a, .int .i64 i] 124)).alloc (.cells #[.int .i64 0, .int .i64 0] 141)) := ((Below.refl _ _).alloc (Nat.le_refl _) _).alloc (by simp) _
  have kb := (Blk.new w #[.int .i64 11, .int .i64 d, .int .i64 a, .int .i64 i] 124).alloc (.cells #[.int .i64 0, .int .i64 0] 141)
  have ke := Blk.new (w.alloc (.cells #[.int .i64 11, .int .i64 d, .int .i64 a, .int .i64 i] 124)) #[.int .i64 0, .int .i64 0] 141
  simp only [World.size_alloc] at ke
  have H0 := h.below hB0
  have hlt := h.pr.blk.lt
  have HBB := hide h.bb
  have hG : w.heap.size + 1 ≠ g := by omega
  have hbG : base ≤ w.heap.size + 1 := by have := h.bb; omega
  have T0 : Turn (fun j => base ≤ j) w _ := turn_below hB0
  have K0 : Keeps g w _ := keeps_below hB0
  obtain ⟨z0, z1⟩ := h.pr.range d.toNat
  obtain ⟨y0, y1⟩ := h.pr.range a.toNat
  have HD := hide (fun w h => pd_any 11 d a i g pc rg (.slice a1 n1 c1) (.slice a2 n2 c2) (.slice a3 n3 c3) (.slice ra rn rc) w h d0 d1)
  have HA := hide (fun w h => pa_any 11 d a i g pc rg (.slice a1 n1 c1) (.slice a2 n2 c2) (.slice a3 n3 c3) (.slice ra rn rc) w h a0 a7)
  have HN := hide (fun w h => pnear_any 11 d a i g pc rg (.slice a1 n1 c1) (.slice a2 n2 c2) (.slice a3 n3 c3) (.slice ra rn rc) w h a0 a7 i0 i1)
  generalize rg.getD d.toNat 0 = z at *
  generalize rg.getD a.toNat 0 = y at *
  obtain ⟨v, hv⟩ : ∃ v, v = alu 11 i z y := ⟨_, rfl⟩
  rw [← hv]
  have hv' : v = bits .xor .i64 z y := hv
  clear hv
  have hvr : 0 ≤ v ∧ v ≤ 4294967295 := by rw [hv']; exact (bits_all .xor (.inr (.inr rfl)) z y z0 z1 y0 y1).2
  have EQ := hide (show ∀ u : Int, u = bits .xor .u32 z y → u = v from fun u hu => by rw [hu, hv']; exact (bits_all .xor (.inr (.inr rfl)) z y z0 z1 y0 y1).1)
  have HP := hide (fun (w : World) (u : Int) (hu : u = v) h => pput_eq 11 d a i v u g pc rg (.slice a1 n1 c1) (.slice a2 n2 c2) (.slice a3 n3 c3) (.slice ra rn rc) w hu h d0 d1 hvr.1 hvr.2)
  have HV := hide hv'
  clear hv'
  clear h hB0
  obtain ⟨k1, k2, k3, k4, k5⟩ := kb.four'
  obtain ⟨e1, e2, e3⟩ := ke.two'
  go_enter Tryz.func238, Tryz.ntmps238
  go_wp2_with fail
  go_region_held3 (fun w' => w'.cell? ⟨w.heap.size, 0, none⟩ = some (.int .i64 11) ∧ w'.cell? ⟨w.heap.size, 1, none⟩ = some (.int .i64 d) ∧ w'.cell? ⟨w.heap.size, 2, none⟩ = some (.int .i64 a) ∧ w'.cell? ⟨w.heap.size, 3, none⟩ = some (.int .i64 i)) (go_keep)
    (first
      | (go_at_call 228; refine (HD.out _ (by exact ⟨H1.pr.blk, H1.pr.len, H1.pr.pcw, H1.pr.rgw⟩)).mono ?_; rintro e w2 ⟨rfl, hb2⟩; (try replace hb2 := undrew hb2); have H2 := H1.below hb2; have B2 := B1.trans (hb2.mono B1.size); obtain ⟨k1, k2, k3, k4, k5⟩ := (kb.below B2).four'; obtain ⟨e1, e2, e3⟩ := (ke.below B2).two')
      | (go_at_call 228; refine (HD.out _ (by exact ⟨H0.pr.blk, H0.pr.len, H0.pr.pcw, H0.pr.rgw⟩)).mono ?_; rintro e w1 ⟨rfl, hb1⟩; (try replace hb1 := undrew hb1); have H1 := H0.below hb1; have B1 := hb1; obtain ⟨k1, k2, k3, k4, k5⟩ := (kb.below B1).four'; obtain ⟨e1, e2, e3⟩ := (ke.below B1).two')
      | (go_at_call 230; refine (HA.out _ (by exact ⟨H1.pr.blk, H1.pr.len, H1.pr.pcw, H1.pr.rgw⟩)).mono ?_; rintro e w2 ⟨rfl, hb2⟩; (try replace hb2 := undrew hb2); have H2 := H1.below hb2; have B2 := B1.trans (hb2.mono B1.size); obtain ⟨k1, k2, k3, k4, k5⟩ := (kb.below B2).four'; obtain ⟨e1, e2, e3⟩ := (ke.below B2).two')
      | (go_at_call 230; refine (HA.out _ (by exact ⟨H0.pr.blk, H0.pr.len, H0.pr.pcw, H0.pr.rgw⟩)).mono ?_; rintro e w1 ⟨rfl, hb1⟩; (try replace hb1 := undrew hb1); have H1 := H0.below hb1; have B1 := hb1; obtain ⟨k1, k2, k3, k4, k5⟩ := (kb.below B1).four'; obtain ⟨e1, e2, e3⟩ := (ke.below B1).two')
      | (go_at_call 226; refine (HP.out _ _ (by first | exact EQ.out _ rfl | exact EQ.out _ (by simp)) (by exact ⟨H2.pr.blk, H2.pr.len, H2.pr.pcw, H2.pr.rgw⟩)).mono ?_; rintro e w9 ⟨rfl, p9, t9⟩; have H9 := H2.turn t9 p9; have ke9 := turn_blk t9 (ke.below B2) (fun e => hG e); have T9 := (T0.trans (turn_below B2)).trans (turn_base t9 HBB.out); obtain ⟨hp, y0', y1'⟩ := op_done H9 ke9 hG hbG T9 ((K0.trans (keeps_below B2)).trans (keeps_turn t9)) (by omega) 0 0; have HX := hide hp; obtain ⟨e1, e2, e3⟩ := ke9.two'; clear hp H9 T9 ke9; obtain ⟨k1, k2, k3, k4, k5⟩ := (turn_blk t9 (kb.below B2) (fun e => by have e' : w.heap.size = g := e; omega)).four'))
  all_goals
    go_wp2
    exact bodyPost_ret (v := .agg #[.int .i64 0, .int .i64 0]) (by simp [results, Tryz.results238, go_sem, y0', y1']) rfl HX.out
end Go.Proofs.YtngdgogjlpjjpadGreat
