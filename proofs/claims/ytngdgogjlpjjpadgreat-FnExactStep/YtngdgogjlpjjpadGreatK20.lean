import Derived.Test.YtngdgogjlpjjpadGreatK19
import Derived.Test.YtngdgogjlpjjpadGreatK17
namespace Go.Proofs.YtngdgogjlpjjpadGreat
open Go.RowKit
set_option linter.unusedVariables false
set_option linter.unusedSimpArgs false
set_option maxRecDepth 100000

theorem mask31 (y : Int) (y0 : 0 ≤ y) (y1 : y ≤ 4294967295) : bits .and .u32 y 31 = y % 32 := bits_mask .u32 32 (by decide) wraps32 5 (by decide) y y0 (by omega)
theorem mask16 (y : Int) (y0 : 0 ≤ y) (y1 : y ≤ 4294967295) : bits .and .u32 y 65535 = y % 65536 := bits_mask .u32 32 (by decide) wraps32 16 (by decide) y y0 (by omega)
theorem or_high (z i : Int) (z0 : 0 ≤ z) (z1 : z ≤ 4294967295) (i0 : 0 ≤ i) (i1 : i ≤ 65535) : bits .or .u32 (bits .and .u32 z 65535) (IntKind.u32.wrap (IntKind.u32.wrap i * 65536)) = z % 65536 + i * 65536 := by
  rw [mask16 z z0 z1, wraps32 i i0 (by omega), wraps32 (i * 65536) (by omega) (by omega)]
  obtain ⟨a, ha⟩ := Int.eq_ofNat_of_zero_le (show 0 ≤ z % 65536 by omega)
  obtain ⟨b, hb⟩ := Int.eq_ofNat_of_zero_le (show 0 ≤ i * 65536 by omega)
  have h1 := (bits_nat .u32 32 (by decide) wraps32 a b (by omega) (by omega)).2
  have h2 := (bits_nat .u32 32 (by decide) wraps32 b a (by omega) (by omega)).2
  have h3 := bits_join .u32 32 (by decide) wraps32 16 (i * 65536) (z % 65536) (by omega) (by omega) (by omega) (by omega) (by omega) (by omega)
  rw [ha, hb] at *
  rw [h1, Nat.or_comm, ← h2, h3]
  omega

set_option maxHeartbeats 1000000 in
theorem op3_any (d a i : Int) (g base : Nat) (pc : Int) (rg : List Int) (a1 a2 a3 : Option Addr) (n1 c1 n2 c2 n3 c3 : Nat) (x1 x2 x3 : List Int) (ra : Option Addr) (rn rc : Nat) (rs : List Rg) (w : World) (h : Pm w g base pc rg a1 a2 a3 n1 c1 n2 c2 n3 c3 x1 x2 x3 ra rn rc rs) (d0 : 0 ≤ d) (d1 : d ≤ 7) (a0 : 0 ≤ a) (a7 : a ≤ 7) (i0 : 0 ≤ i) (i1 : i ≤ 65535) :
    Calls Tryz.prog 227 #[.pointer (some ⟨g, 0, none⟩), .agg #[.int .i64 3, .int .i64 d, .int .i64 a, .int .i64 i]] w (OpPost w g base a1 a2 n1 c1 n2 c2 ra rn rc rs ⟨0, 0, (pc + 4) % 4294967296, rg.set d.toNat (alu 3 i (rg.getD d.toNat 0) (rg.getD a.toNat 0)), x1, x2, x3⟩) := by
  have hB0 : Below w.heap.size w ((w.alloc (.cells #[.int .i64 3, .int .i64 d, .int .i64 a, .int .i64 i] 124)).alloc (.cells #[.int .i64 0, .int .i64 0] 141)) := ((Below.refl _ _).alloc (Nat.le_refl _) _).alloc (by simp) _
  have kb := (Blk.new w #[.int .i64 3, .int .i64 d, .int .i64 a, .int .i64 i] 124).alloc (.cells #[.int .i64 0, .int .i64 0] 141)
  have ke := Blk.new (w.alloc (.cells #[.int .i64 3, .int .i64 d, .int .i64 a, .int .i64 i] 124)) #[.int .i64 0, .int .i64 0] 141
  simp only [World.size_alloc] at ke
  have H0 := h.below hB0
  have hlt := h.pr.blk.lt
  have HBB := hide h.bb
  have hG : w.heap.size + 1 ≠ g := by omega
  have hbG : base ≤ w.heap.size + 1 := by have := h.bb; omega
  have T0 : Turn (fun j => base ≤ j) w _ := turn_below hB0
  have K0 : Keeps g w _ := keeps_below hB0
  obtain ⟨z0, z1⟩ := h.pr.range d.toNat
  obtain ⟨y0, y1⟩ := h.pr.range a.toNat
  have HD := hide (fun w h => pd_any 3 d a i g pc rg (.slice a1 n1 c1) (.slice a2 n2 c2) (.slice a3 n3 c3) (.slice ra rn rc) w h d0 d1)
  have HA := hide (fun w h => pa_any 3 d a i g pc rg (.slice a1 n1 c1) (.slice a2 n2 c2) (.slice a3 n3 c3) (.slice ra rn rc) w h a0 a7)
  have HN := hide (fun w h => pnear_any 3 d a i g pc rg (.slice a1 n1 c1) (.slice a2 n2 c2) (.slice a3 n3 c3) (.slice ra rn rc) w h a0 a7 i0 i1)
  generalize rg.getD d.toNat 0 = z at *
  generalize rg.getD a.toNat 0 = y at *
  obtain ⟨v, hv⟩ : ∃ v, v = alu 3 i z y := ⟨_, rfl⟩
  rw [← hv]
  have hv' : v = z % 65536 + i * 65536 := hv
  clear hv
  have hvr : 0 ≤ v ∧ v ≤ 4294967295 := by omega
  have EQ := hide (show ∀ u : Int, u = bits .or .u32 (bits .and .u32 z 65535) (IntKind.u32.wrap (IntKind.u32.wrap i * 65536)) → u = v from fun u hu => by rw [hu, hv']; exact or_high z i z0 z1 i0 i1)
  have HP := hide (fun (w : World) (u : Int) (hu : u = v) h => pput_eq 3 d a i v u g pc rg (.slice a1 n1 c1) (.slice a2 n2 c2) (.slice a3 n3 c3) (.slice ra rn rc) w hu h d0 d1 hvr.1 hvr.2)
  have HV := hide hv'
  clear hv'
  clear h hB0
  obtain ⟨k1, k2, k3, k4, k5⟩ := kb.four'
  obtain ⟨e1, e2, e3⟩ := ke.two'
  go_enter Tryz.func227, Tryz.ntmps227
  go_wp2_with fail
  go_region_held3 (fun w' => w'.cell? ⟨w.heap.size, 0, none⟩ = some (.int .i64 3) ∧ w'.cell? ⟨w.heap.size, 1, none⟩ = some (.int .i64 d) ∧ w'.cell? ⟨w.heap.size, 2, none⟩ = some (.int .i64 a) ∧ w'.cell? ⟨w.heap.size, 3, none⟩ = some (.int .i64 i)) (go_keep)
    (first
      | (go_at_call 228; refine (HD.out _ (by exact ⟨H0.pr.blk, H0.pr.len, H0.pr.pcw, H0.pr.rgw⟩)).mono ?_; rintro e w1 ⟨rfl, hb1⟩; (try replace hb1 := undrew hb1); have H1 := H0.below hb1; have B1 := hb1; obtain ⟨k1, k2, k3, k4, k5⟩ := (kb.below B1).four'; obtain ⟨e1, e2, e3⟩ := (ke.below B1).two')
      | (go_at_call 226; refine (HP.out _ _ (by first | exact EQ.out _ rfl | exact EQ.out _ (by simp)) (by exact ⟨H1.pr.blk, H1.pr.len, H1.pr.pcw, H1.pr.rgw⟩)).mono ?_; rintro e w9 ⟨rfl, p9, t9⟩; have H9 := H1.turn t9 p9; have ke9 := turn_blk t9 (ke.below B1) (fun e => hG e); have T9 := (T0.trans (turn_below B1)).trans (turn_base t9 HBB.out); obtain ⟨hp, y0', y1'⟩ := op_done H9 ke9 hG hbG T9 ((K0.trans (keeps_below B1)).trans (keeps_turn t9)) (by omega) 0 0; have HX := hide hp; obtain ⟨e1, e2, e3⟩ := ke9.two'; clear hp H9 T9 ke9; obtain ⟨k1, k2, k3, k4, k5⟩ := (turn_blk t9 (kb.below B1) (fun e => by have e' : w.heap.size = g := e; omega)).four'))
  all_goals
    go_wp2
    exact bodyPost_ret (v := .agg #[.int .i64 0, .int .i64 0]) (by simp [results, Tryz.results227, go_sem, y0', y1']) rfl HX.out

set_option maxHeartbeats 1000000 in
theorem op12_any (d a i : Int) (g base : Nat) (pc : Int) (rg : List Int) (a1 a2 a3 : Option Addr) (n1 c1 n2 c2 n3 c3 : Nat) (x1 x2 x3 : List Int) (ra : Option Addr) (rn rc : Nat) (rs : List Rg) (w : World) (h : Pm w g base pc rg a1 a2 a3 n1 c1 n2 c2 n3 c3 x1 x2 x3 ra rn rc rs) (d0 : 0 ≤ d) (d1 : d ≤ 7) (a0 : 0 ≤ a) (a7 : a ≤ 7) (i0 : 0 ≤ i) (i1 : i ≤ 65535) :
    Calls Tryz.prog 239 #[.pointer (some ⟨g, 0, none⟩), .agg #[.int .i64 12, .int .i64 d, .int .i64 a, .int .i64 i]] w (OpPost w g base a1 a2 n1 c1 n2 c2 ra rn rc rs ⟨0, 0, (pc + 4) % 4294967296, rg.set d.toNat (alu 12 i (rg.getD d.toNat 0) (rg.getD a.toNat 0)), x1, x2, x3⟩) := by
  have hB0 : Below w.heap.size w ((w.alloc (.cells #[.int .i64 12, .int .i64 d, .int .i64 a, .int .i64 i] 124)).alloc (.cells #[.int .i64 0, .int .i64 0] 141)) := ((Below.refl _ _).alloc (Nat.le_refl _) _).alloc (by simp) _
  have kb := (Blk.new w #[.int .i64 12, .int .i64 d, .int .i64 a, .int .i64 i] 124).alloc (.cells #[.int .i64 0, .int .i64 0] 141)
  have ke := Blk.new (w.alloc (.cells #[.int .i64 12, .int .i64 d, .int .i64 a, .int .i64 i] 124)) #[.int .i64 0, .int .i64 0] 141
  simp only [World.size_alloc] at ke
  have H0 := h.below hB0
  have hlt := h.pr.blk.lt
  have HBB := hide h.bb
  have hG : w.heap.size + 1 ≠ g := by omega
  have hbG : base ≤ w.heap.size + 1 := by have := h.bb; omega
  have T0 : Turn (fun j => base ≤ j) w _ := turn_below hB0
  have K0 : Keeps g w _ := keeps_below hB0
  obtain ⟨z0, z1⟩ := h.pr.range d.toNat
  obtain ⟨y0, y1⟩ := h.pr.range a.toNat
  have HD := hide (fun w h => pd_any 12 d a i g pc rg (.slice a1 n1 c1) (.slice a2 n2 c2) (.slice a3 n3 c3) (.slice ra rn rc) w h d0 d1)
  have HA := hide (fun w h => pa_any 12 d a i g pc rg (.slice a1 n1 c1) (.slice a2 n2 c2) (.slice a3 n3 c3) (.slice ra rn rc) w h a0 a7)
  have HN := hide (fun w h => pnear_any 12 d a i g pc rg (.slice a1 n1 c1) (.slice a2 n2 c2) (.slice a3 n3 c3) (.slice ra rn rc) w h a0 a7 i0 i1)
  generalize rg.getD d.toNat 0 = z at *
  generalize rg.getD a.toNat 0 = y at *
  obtain ⟨v, hv⟩ : ∃ v, v = alu 12 i z y := ⟨_, rfl⟩
  rw [← hv]
  have hv' : v = (z * (2:Int)^(y % 32).toNat) % 4294967296 := hv
  clear hv
  have hvr : 0 ≤ v ∧ v ≤ 4294967295 := by omega
  have hsh : Op.shift .shl .u32 z .u32 (bits .and .u32 y 31) = pure (.int .u32 v) := by
    rw [mask31 y y0 y1, shift_shl_u32 _ _ _ (by omega) (by omega), IntKind.wrap_u32, hv']
  have EQ := hide (show ∀ u : Int, u = v → u = v from fun u hu => by exact hu)
  have HP := hide (fun (w : World) (u : Int) (hu : u = v) h => pput_eq 12 d a i v u g pc rg (.slice a1 n1 c1) (.slice a2 n2 c2) (.slice a3 n3 c3) (.slice ra rn rc) w hu h d0 d1 hvr.1 hvr.2)
  have HV := hide hv'
  clear hv'
  clear h hB0
  obtain ⟨k1, k2, k3, k4, k5⟩ := kb.four'
  obtain ⟨e1, e2, e3⟩ := ke.two'
  go_enter Tryz.func239, Tryz.ntmps239
  go_wp2_with fail
  go_region_held3 (fun w' => w'.cell? ⟨w.heap.size, 0, none⟩ = some (.int .i64 12) ∧ w'.cell? ⟨w.heap.size, 1, none⟩ = some (.int .i64 d) ∧ w'.cell? ⟨w.heap.size, 2, none⟩ = some (.int .i64 a) ∧ w'.cell? ⟨w.heap.size, 3, none⟩ = some (.int .i64 i)) (go_keep)
    (first
      | (go_at_call 228; refine (HD.out _ (by exact ⟨H1.pr.blk, H1.pr.len, H1.pr.pcw, H1.pr.rgw⟩)).mono ?_; rintro e w2 ⟨rfl, hb2⟩; (try replace hb2 := undrew hb2); have H2 := H1.below hb2; have B2 := B1.trans (hb2.mono B1.size); obtain ⟨k1, k2, k3, k4, k5⟩ := (kb.below B2).four'; obtain ⟨e1, e2, e3⟩ := (ke.below B2).two')
      | (go_at_call 228; refine (HD.out _ (by exact ⟨H0.pr.blk, H0.pr.len, H0.pr.pcw, H0.pr.rgw⟩)).mono ?_; rintro e w1 ⟨rfl, hb1⟩; (try replace hb1 := undrew hb1); have H1 := H0.below hb1; have B1 := hb1; obtain ⟨k1, k2, k3, k4, k5⟩ := (kb.below B1).four'; obtain ⟨e1, e2, e3⟩ := (ke.below B1).two')
      | (go_at_call 230; refine (HA.out _ (by exact ⟨H1.pr.blk, H1.pr.len, H1.pr.pcw, H1.pr.rgw⟩)).mono ?_; rintro e w2 ⟨rfl, hb2⟩; (try replace hb2 := undrew hb2); have H2 := H1.below hb2; have B2 := B1.trans (hb2.mono B1.size); obtain ⟨k1, k2, k3, k4, k5⟩ := (kb.below B2).four'; obtain ⟨e1, e2, e3⟩ := (ke.below B2).two')
      | (go_at_call 230; refine (HA.out _ (by exact ⟨H0.pr.blk, H0.pr.len, H0.pr.pcw, H0.pr.rgw⟩)).mono ?_; rintro e w1 ⟨rfl, hb1⟩; (try replace hb1 := undrew hb1); have H1 := H0.below hb1; have B1 := hb1; obtain ⟨k1, k2, k3, k4, k5⟩ := (kb.below B1).four'; obtain ⟨e1, e2, e3⟩ := (ke.below B1).two')
      | (go_at_call 226; refine (HP.out _ _ (by first | exact EQ.out _ rfl | exact EQ.out _ (by simp)) (by exact ⟨H2.pr.blk, H2.pr.len, H2.pr.pcw, H2.pr.rgw⟩)).mono ?_; rintro e w9 ⟨rfl, p9, t9⟩; have H9 := H2.turn t9 p9; have ke9 := turn_blk t9 (ke.below B2) (fun e => hG e); have T9 := (T0.trans (turn_below B2)).trans (turn_base t9 HBB.out); obtain ⟨hp, y0', y1'⟩ := op_done H9 ke9 hG hbG T9 ((K0.trans (keeps_below B2)).trans (keeps_turn t9)) (by omega) 0 0; have HX := hide hp; obtain ⟨e1, e2, e3⟩ := ke9.two'; clear hp H9 T9 ke9; obtain ⟨k1, k2, k3, k4, k5⟩ := (turn_blk t9 (kb.below B2) (fun e => by have e' : w.heap.size = g := e; omega)).four'))
  all_goals
    go_wp2
    exact bodyPost_ret (v := .agg #[.int .i64 0, .int .i64 0]) (by simp [results, Tryz.results239, go_sem, y0', y1']) rfl HX.out

set_option maxHeartbeats 1000000 in
theorem op13_any (d a i : Int) (g base : Nat) (pc : Int) (rg : List Int) (a1 a2 a3 : Option Addr) (n1 c1 n2 c2 n3 c3 : Nat) (x1 x2 x3 : List Int) (ra : Option Addr) (rn rc : Nat) (rs : List Rg) (w : World) (h : Pm w g base pc rg a1 a2 a3 n1 c1 n2 c2 n3 c3 x1 x2 x3 ra rn rc rs) (d0 : 0 ≤ d) (d1 : d ≤ 7) (a0 : 0 ≤ a) (a7 : a ≤ 7) (i0 : 0 ≤ i) (i1 : i ≤ 65535) :
    Calls Tryz.prog 240 #[.pointer (some ⟨g, 0, none⟩), .agg #[.int .i64 13, .int .i64 d, .int .i64 a, .int .i64 i]] w (OpPost w g base a1 a2 n1 c1 n2 c2 ra rn rc rs ⟨0, 0, (pc + 4) % 4294967296, rg.set d.toNat (alu 13 i (rg.getD d.toNat 0) (rg.getD a.toNat 0)), x1, x2, x3⟩) := by
  have hB0 : Below w.heap.size w ((w.alloc (.cells #[.int .i64 13, .int .i64 d, .int .i64 a, .int .i64 i] 124)).alloc (.cells #[.int .i64 0, .int .i64 0] 141)) := ((Below.refl _ _).alloc (Nat.le_refl _) _).alloc (by simp) _
  have kb := (Blk.new w #[.int .i64 13, .int .i64 d, .int .i64 a, .int .i64 i] 124).alloc (.cells #[.int .i64 0, .int .i64 0] 141)
  have ke := Blk.new (w.alloc (.cells #[.int .i64 13, .int .i64 d, .int .i64 a, .int .i64 i] 124)) #[.int .i64 0, .int .i64 0] 141
  simp only [World.size_alloc] at ke
  have H0 := h.below hB0
  have hlt := h.pr.blk.lt
  have HBB := hide h.bb
  have hG : w.heap.size + 1 ≠ g := by omega
  have hbG : base ≤ w.heap.size + 1 := by have := h.bb; omega
  have T0 : Turn (fun j => base ≤ j) w _ := turn_below hB0
  have K0 : Keeps g w _ := keeps_below hB0
  obtain ⟨z0, z1⟩ := h.pr.range d.toNat
  obtain ⟨y0, y1⟩ := h.pr.range a.toNat
  have HD := hide (fun w h => pd_any 13 d a i g pc rg (.slice a1 n1 c1) (.slice a2 n2 c2) (.slice a3 n3 c3) (.slice ra rn rc) w h d0 d1)
  have HA := hide (fun w h => pa_any 13 d a i g pc rg (.slice a1 n1 c1) (.slice a2 n2 c2) (.slice a3 n3 c3) (.slice ra rn rc) w h a0 a7)
  have HN := hide (fun w h => pnear_any 13 d a i g pc rg (.slice a1 n1 c1) (.slice a2 n2 c2) (.slice a3 n3 c3) (.slice ra rn rc) w h a0 a7 i0 i1)
  generalize rg.getD d.toNat 0 = z at *
  generalize rg.getD a.toNat 0 = y at *
  obtain ⟨v, hv⟩ : ∃ v, v = alu 13 i z y := ⟨_, rfl⟩
  rw [← hv]
  have hv' : v = z / (2:Int)^(y % 32).toNat := hv
  clear hv
  have hvr : 0 ≤ v ∧ v ≤ 4294967295 := by rw [hv']; exact ⟨Int.ediv_nonneg z0 (Int.le_of_lt (pow_pos _)), Int.le_trans (Int.ediv_le_self _ z0) z1⟩
  have hsh : Op.shift .shr .u32 z .u32 (bits .and .u32 y 31) = pure (.int .u32 v) := by
    rw [mask31 y y0 y1, shift_shr_u32 _ _ _ (by omega) (by omega), hv']
  have EQ := hide (show ∀ u : Int, u = v → u = v from fun u hu => by exact hu)
  have HP := hide (fun (w : World) (u : Int) (hu : u = v) h => pput_eq 13 d a i v u g pc rg (.slice a1 n1 c1) (.slice a2 n2 c2) (.slice a3 n3 c3) (.slice ra rn rc) w hu h d0 d1 hvr.1 hvr.2)
  have HV := hide hv'
  clear hv'
  clear h hB0
  obtain ⟨k1, k2, k3, k4, k5⟩ := kb.four'
  obtain ⟨e1, e2, e3⟩ := ke.two'
  go_enter Tryz.func240, Tryz.ntmps240
  go_wp2_with fail
  go_region_held3 (fun w' => w'.cell? ⟨w.heap.size, 0, none⟩ = some (.int .i64 13) ∧ w'.cell? ⟨w.heap.size, 1, none⟩ = some (.int .i64 d) ∧ w'.cell? ⟨w.heap.size, 2, none⟩ = some (.int .i64 a) ∧ w'.cell? ⟨w.heap.size, 3, none⟩ = some (.int .i64 i)) (go_keep)
    (first
      | (go_at_call 228; refine (HD.out _ (by exact ⟨H1.pr.blk, H1.pr.len, H1.pr.pcw, H1.pr.rgw⟩)).mono ?_; rintro e w2 ⟨rfl, hb2⟩; (try replace hb2 := undrew hb2); have H2 := H1.below hb2; have B2 := B1.trans (hb2.mono B1.size); obtain ⟨k1, k2, k3, k4, k5⟩ := (kb.below B2).four'; obtain ⟨e1, e2, e3⟩ := (ke.below B2).two')
      | (go_at_call 228; refine (HD.out _ (by exact ⟨H0.pr.blk, H0.pr.len, H0.pr.pcw, H0.pr.rgw⟩)).mono ?_; rintro e w1 ⟨rfl, hb1⟩; (try replace hb1 := undrew hb1); have H1 := H0.below hb1; have B1 := hb1; obtain ⟨k1, k2, k3, k4, k5⟩ := (kb.below B1).four'; obtain ⟨e1, e2, e3⟩ := (ke.below B1).two')
      | (go_at_call 230; refine (HA.out _ (by exact ⟨H1.pr.blk, H1.pr.len, H1.pr.pcw, H1.pr.rgw⟩)).mono ?_; rintro e w2 ⟨rfl, hb2⟩; (try replace hb2 := undrew hb2); have H2 := H1.below hb2; have B2 := B1.trans (hb2.mono B1.size); obtain ⟨k1, k2, k3, k4, k5⟩ := (kb.below B2).four'; obtain ⟨e1, e2, e3⟩ := (ke.below B2).two')
      | (go_at_call 230; refine (HA.out _ (by exact ⟨H0.pr.blk, H0.pr.len, H0.pr.pcw, H0.pr.rgw⟩)).mono ?_; rintro e w1 ⟨rfl, hb1⟩; (try replace hb1 := undrew hb1); have H1 := H0.below hb1; have B1 := hb1; obtain ⟨k1, k2, k3, k4, k5⟩ := (kb.below B1).four'; obtain ⟨e1, e2, e3⟩ := (ke.below B1).two')
      | (go_at_call 226; refine (HP.out _ _ (by first | exact EQ.out _ rfl | exact EQ.out _ (by simp)) (by exact ⟨H2.pr.blk, H2.pr.len, H2.pr.pcw, H2.pr.rgw⟩)).mono ?_; rintro e w9 ⟨rfl, p9, t9⟩; have H9 := H2.turn t9 p9; have ke9 := turn_blk t9 (ke.below B2) (fun e => hG e); have T9 := (T0.trans (turn_below B2)).trans (turn_base t9 HBB.out); obtain ⟨hp, y0', y1'⟩ := op_done H9 ke9 hG hbG T9 ((K0.trans (keeps_below B2)).trans (keeps_turn t9)) (by omega) 0 0; have HX := hide hp; obtain ⟨e1, e2, e3⟩ := ke9.two'; clear hp H9 T9 ke9; obtain ⟨k1, k2, k3, k4, k5⟩ := (turn_blk t9 (kb.below B2) (fun e => by have e' : w.heap.size = g := e; omega)).four'))
  all_goals
    go_wp2
    exact bodyPost_ret (v := .agg #[.int .i64 0, .int .i64 0]) (by simp [results, Tryz.results240, go_sem, y0', y1']) rfl HX.out
set_option maxHeartbeats 1000000 in
theorem op1_any (d a i : Int) (g base : Nat) (pc : Int) (rg : List Int) (a1 a2 a3 : Option Addr) (n1 c1 n2 c2 n3 c3 : Nat) (x1 x2 x3 : List Int) (ra : Option Addr) (rn rc : Nat) (rs : List Rg) (w : World) (h : Pm w g base pc rg a1 a2 a3 n1 c1 n2 c2 n3 c3 x1 x2 x3 ra rn rc rs) (d0 : 0 ≤ d) (d1 : d ≤ 7) (a0 : 0 ≤ a) (a7 : a ≤ 7) (i0 : 0 ≤ i) (i1 : i ≤ 65535) :
    Calls Tryz.prog 223 #[.pointer (some ⟨g, 0, none⟩), .agg #[.int .i64 1, .int .i64 d, .int .i64 a, .int .i64 i]] w (OpPost w g base a1 a2 n1 c1 n2 c2 ra rn rc rs ⟨1, 0, (pc + 4) % 4294967296, rg, x1, x2, x3⟩) := by
  have hB0 : Below w.heap.size w ((w.alloc (.cells #[.int .i64 1, .int .i64 d, .int .i64 a, .int .i64 i] 124)).alloc (.cells #[.int .i64 0, .int .i64 0] 141)) := ((Below.refl _ _).alloc (Nat.le_refl _) _).alloc (by simp) _
  have kb := (Blk.new w #[.int .i64 1, .int .i64 d, .int .i64 a, .int .i64 i] 124).alloc (.cells #[.int .i64 0, .int .i64 0] 141)
  have ke := Blk.new (w.alloc (.cells #[.int .i64 1, .int .i64 d, .int .i64 a, .int .i64 i] 124)) #[.int .i64 0, .int .i64 0] 141
  simp only [World.size_alloc] at ke
  have H0 := h.below hB0
  have hlt := h.pr.blk.lt
  have HBB := hide h.bb
  have hG : w.heap.size + 1 ≠ g := by omega
  have hbG : base ≤ w.heap.size + 1 := by have := h.bb; omega
  have T0 : Turn (fun j => base ≤ j) w _ := turn_below hB0
  have K0 : Keeps g w _ := keeps_below hB0
  have HL := hide (fun w h => pleave_any 1 0 g pc rg (.slice a1 n1 c1) (.slice a2 n2 c2) (.slice a3 n3 c3) (.slice ra rn rc) w h)
  clear h hB0
  obtain ⟨k1, k2, k3, k4, k5⟩ := kb.four'
  obtain ⟨e1, e2, e3⟩ := ke.two'
  go_enter Tryz.func223, Tryz.ntmps223
  go_wp2_with fail
  refine (HL.out _ (by exact ⟨H0.pr.blk, H0.pr.len, H0.pr.pcw, H0.pr.rgw⟩)).mono ?_
  rintro e w9 ⟨rfl, p9, t9⟩
  have H9 := H0.turn t9 p9
  have ke9 := turn_blk t9 ke (fun e => hG e)
  have T9 := T0.trans (turn_base t9 HBB.out)
  obtain ⟨hp, y0', y1'⟩ := op_done H9 ke9 hG hbG T9 (K0.trans (keeps_turn t9)) (by omega) (1) (0)
  have HX := hide hp
  clear e1 e2 e3
  obtain ⟨e1, e2, e3⟩ := ke9.two'
  clear hp H9 T9 ke9 k1 k2 k3 k4 k5
  go_wp2
  exact bodyPost_ret (v := .agg #[.int .i64 (1), .int .i64 (0)]) (by simp [results, Tryz.results223, go_sem, y0', y1']) rfl HX.out

set_option maxHeartbeats 1000000 in
theorem op24_any (d a i : Int) (g base : Nat) (pc : Int) (rg : List Int) (a1 a2 a3 : Option Addr) (n1 c1 n2 c2 n3 c3 : Nat) (x1 x2 x3 : List Int) (ra : Option Addr) (rn rc : Nat) (rs : List Rg) (w : World) (h : Pm w g base pc rg a1 a2 a3 n1 c1 n2 c2 n3 c3 x1 x2 x3 ra rn rc rs) (d0 : 0 ≤ d) (d1 : d ≤ 7) (a0 : 0 ≤ a) (a7 : a ≤ 7) (i0 : 0 ≤ i) (i1 : i ≤ 65535) :
    Calls Tryz.prog 255 #[.pointer (some ⟨g, 0, none⟩), .agg #[.int .i64 24, .int .i64 d, .int .i64 a, .int .i64 i]] w (OpPost w g base a1 a2 n1 c1 n2 c2 ra rn rc rs ⟨3, i, (pc + 4) % 4294967296, rg, x1, x2, x3⟩) := by
  have hB0 : Below w.heap.size w ((w.alloc (.cells #[.int .i64 24, .int .i64 d, .int .i64 a, .int .i64 i] 124)).alloc (.cells #[.int .i64 0, .int .i64 0] 141)) := ((Below.refl _ _).alloc (Nat.le_refl _) _).alloc (by simp) _
  have kb := (Blk.new w #[.int .i64 24, .int .i64 d, .int .i64 a, .int .i64 i] 124).alloc (.cells #[.int .i64 0, .int .i64 0] 141)
  have ke := Blk.new (w.alloc (.cells #[.int .i64 24, .int .i64 d, .int .i64 a, .int .i64 i] 124)) #[.int .i64 0, .int .i64 0] 141
  simp only [World.size_alloc] at ke
  have H0 := h.below hB0
  have hlt := h.pr.blk.lt
  have HBB := hide h.bb
  have hG : w.heap.size + 1 ≠ g := by omega
  have hbG : base ≤ w.heap.size + 1 := by have := h.bb; omega
  have T0 : Turn (fun j => base ≤ j) w _ := turn_below hB0
  have K0 : Keeps g w _ := keeps_below hB0
  have HL := hide (fun w h => pleave_any 3 i g pc rg (.slice a1 n1 c1) (.slice a2 n2 c2) (.slice a3 n3 c3) (.slice ra rn rc) w h)
  clear h hB0
  obtain ⟨k1, k2, k3, k4, k5⟩ := kb.four'
  obtain ⟨e1, e2, e3⟩ := ke.two'
  go_enter Tryz.func255, Tryz.ntmps255
  go_wp2_with fail
  refine (HL.out _ (by exact ⟨H0.pr.blk, H0.pr.len, H0.pr.pcw, H0.pr.rgw⟩)).mono ?_
  rintro e w9 ⟨rfl, p9, t9⟩
  have H9 := H0.turn t9 p9
  have ke9 := turn_blk t9 ke (fun e => hG e)
  have T9 := T0.trans (turn_base t9 HBB.out)
  obtain ⟨hp, y0', y1'⟩ := op_done H9 ke9 hG hbG T9 (K0.trans (keeps_turn t9)) (by omega) (3) (i)
  have HX := hide hp
  clear e1 e2 e3
  obtain ⟨e1, e2, e3⟩ := ke9.two'
  clear hp H9 T9 ke9 k1 k2 k3 k4 k5
  go_wp2
  exact bodyPost_ret (v := .agg #[.int .i64 (3), .int .i64 (i)]) (by simp [results, Tryz.results255, go_sem, y0', y1']) rfl HX.out

set_option maxHeartbeats 1000000 in
theorem op25_any (d a i : Int) (g base : Nat) (pc : Int) (rg : List Int) (a1 a2 a3 : Option Addr) (n1 c1 n2 c2 n3 c3 : Nat) (x1 x2 x3 : List Int) (ra : Option Addr) (rn rc : Nat) (rs : List Rg) (w : World) (h : Pm w g base pc rg a1 a2 a3 n1 c1 n2 c2 n3 c3 x1 x2 x3 ra rn rc rs) (d0 : 0 ≤ d) (d1 : d ≤ 7) (a0 : 0 ≤ a) (a7 : a ≤ 7) (i0 : 0 ≤ i) (i1 : i ≤ 65535) :
    Calls Tryz.prog 256 #[.pointer (some ⟨g, 0, none⟩), .agg #[.int .i64 25, .int .i64 d, .int .i64 a, .int .i64 i]] w (OpPost w g base a1 a2 n1 c1 n2 c2 ra rn rc rs ⟨4, 0, (pc + 4) % 4294967296, rg, x1, x2, x3⟩) := by
  have hB0 : Below w.heap.size w ((w.alloc (.cells #[.int .i64 25, .int .i64 d, .int .i64 a, .int .i64 i] 124)).alloc (.cells #[.int .i64 0, .int .i64 0] 141)) := ((Below.refl _ _).alloc (Nat.le_refl _) _).alloc (by simp) _
  have kb := (Blk.new w #[.int .i64 25, .int .i64 d, .int .i64 a, .int .i64 i] 124).alloc (.cells #[.int .i64 0, .int .i64 0] 141)
  have ke := Blk.new (w.alloc (.cells #[.int .i64 25, .int .i64 d, .int .i64 a, .int .i64 i] 124)) #[.int .i64 0, .int .i64 0] 141
  simp only [World.size_alloc] at ke
  have H0 := h.below hB0
  have hlt := h.pr.blk.lt
  have HBB := hide h.bb
  have hG : w.heap.size + 1 ≠ g := by omega
  have hbG : base ≤ w.heap.size + 1 := by have := h.bb; omega
  have T0 : Turn (fun j => base ≤ j) w _ := turn_below hB0
  have K0 : Keeps g w _ := keeps_below hB0
  have HL := hide (fun w h => pleave_any 4 0 g pc rg (.slice a1 n1 c1) (.slice a2 n2 c2) (.slice a3 n3 c3) (.slice ra rn rc) w h)
  clear h hB0
  obtain ⟨k1, k2, k3, k4, k5⟩ := kb.four'
  obtain ⟨e1, e2, e3⟩ := ke.two'
  go_enter Tryz.func256, Tryz.ntmps256
  go_wp2_with fail
  refine (HL.out _ (by exact ⟨H0.pr.blk, H0.pr.len, H0.pr.pcw, H0.pr.rgw⟩)).mono ?_
  rintro e w9 ⟨rfl, p9, t9⟩
  have H9 := H0.turn t9 p9
  have ke9 := turn_blk t9 ke (fun e => hG e)
  have T9 := T0.trans (turn_base t9 HBB.out)
  obtain ⟨hp, y0', y1'⟩ := op_done H9 ke9 hG hbG T9 (K0.trans (keeps_turn t9)) (by omega) (4) (0)
  have HX := hide hp
  clear e1 e2 e3
  obtain ⟨e1, e2, e3⟩ := ke9.two'
  clear hp H9 T9 ke9 k1 k2 k3 k4 k5
  go_wp2
  exact bodyPost_ret (v := .agg #[.int .i64 (4), .int .i64 (0)]) (by simp [results, Tryz.results256, go_sem, y0', y1']) rfl HX.out
end Go.Proofs.YtngdgogjlpjjpadGreat
