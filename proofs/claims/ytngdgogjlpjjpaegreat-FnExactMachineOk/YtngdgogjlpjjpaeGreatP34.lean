import Derived.Test.YtngdgogjlpjjpaeGreatP14
import Derived.Test.YtngdgogjlpjjpaeGreatP16
import Derived.Test.YtngdgogjlpjjpaeGreatP22
namespace Go.Proofs.YtngdgogjlpjjpaeGreat
open Go.RowKit Classical
set_option linter.unusedVariables false
set_option linter.unusedSimpArgs false
set_option maxRecDepth 100000
set_option maxHeartbeats 1000000 in
theorem ld_mn {a : Act} {W : World} {G k : Nat} {d : Option Tmp} {ty : TypeId} {p : String} {af : Array _} {gd : Option _} {v0 v1 v2 v3 v4 v5 v6 v7 v8 v9 v10 v11 v12 v13 v14 : Value} (kb : Blk W G #[v0, v1, v2, v3, v4, v5, v6, v7, v8, v9, v10, v11, v12, v13, v14] 54) (h : a.tmps[k]?.getD undef = .pointer (some ⟨G, 0, none⟩)) : (execOp a.eval { dst := d, op := Op.load 54 (Operand.tmp k), type := ty, pos := p, after := af, guard := gd }).run Tryz.prog W = .ok (.value (.agg #[v0, v1, v2, v3, v4, v5, v6, v7, v8, v9, v10, v11, v12, v13, v14])) W := by
  obtain ⟨q0, q1, q2, q3, q4, q5, q6, q7, q8, q9, q10, q11, q12, q13, q14⟩ := kb.mc
  go_simp
set_option maxHeartbeats 1000000 in
theorem ld_ly {a : Act} {W : World} {G k : Nat} {d : Option Tmp} {ty : TypeId} {p : String} {af : Array _} {gd : Option _} {v0 v1 v2 v3 v4 v5 : Value} (kb : Blk W G #[v0, v1, v2, v3, v4, v5] 36) (h : a.tmps[k]?.getD undef = .pointer (some ⟨G, 0, none⟩)) : (execOp a.eval { dst := d, op := Op.load 36 (Operand.tmp k), type := ty, pos := p, after := af, guard := gd }).run Tryz.prog W = .ok (.value (.agg #[v0, v1, v2, v3, v4, v5])) W := by
  obtain ⟨q0, q1, q2, q3, q4, q5⟩ := kb.ly6
  go_simp
set_option maxHeartbeats 1000000 in
theorem ld_sl {a : Act} {W : World} {G k : Nat} {d : Option Tmp} {ty : TypeId} {p : String} {af : Array _} {gd : Option _} {v0 v1 v2 v3 : Value} (kb : Blk W G #[v0, v1, v2, v3] 134) (h : a.tmps[k]?.getD undef = .pointer (some ⟨G, 0, none⟩)) : (execOp a.eval { dst := d, op := Op.load 134 (Operand.tmp k), type := ty, pos := p, after := af, guard := gd }).run Tryz.prog W = .ok (.value (.agg #[v0, v1, v2, v3])) W := by
  have q0 := kb.cell 0
  have q1 := kb.cell 1
  have q2 := kb.cell 2
  have q3 := kb.cell 3
  simp at q0 q1 q2 q3
  go_simp
set_option maxHeartbeats 1000000 in
theorem ld_ss {a : Act} {W : World} {G i k : Nat} {d : Option Tmp} {ty : TypeId} {p : String} {af : Array _} {gd : Option _} {v : Value} (q : W.cell? ⟨G, i, none⟩ = some v) (h : a.tmps[k]?.getD undef = .pointer (some ⟨G, i, none⟩)) : (execOp a.eval { dst := d, op := Op.load 51 (Operand.tmp k), type := ty, pos := p, after := af, guard := gd }).run Tryz.prog W = .ok (.value v) W := by
  go_simp
set_option maxHeartbeats 1000000 in
theorem ld_bo {a : Act} {W : World} {G i k : Nat} {d : Option Tmp} {ty : TypeId} {p : String} {af : Array _} {gd : Option _} {v : Value} (q : W.cell? ⟨G, i, none⟩ = some v) (h : a.tmps[k]?.getD undef = .pointer (some ⟨G, i, none⟩)) : (execOp a.eval { dst := d, op := Op.load 4 (Operand.tmp k), type := ty, pos := p, after := af, guard := gd }).run Tryz.prog W = .ok (.value v) W := by
  go_simp
set_option maxHeartbeats 4000000 in
theorem slotWith_any (a : Option Addr) (n c : Nat) (xs : List SlT) (m b : Int) (w : World) (h : QS clSl zSl w a n c xs) :
    Calls Tryz.prog 240 #[.slice a n c, .int .i64 m, .int .i64 b] w fun e w' => e = .returned (.int .i64 (hld xs m b)) ∧ Below w.heap.size w w' := by
  have hl := h.1
  have hmx := h.2.1
  unfold maxLen at hmx
  obtain ⟨r, hr⟩ : ∃ r, r = hld xs m b := ⟨_, rfl⟩
  rw [← hr]
  have HR := hide hr
  clear hr
  go_enter Tryz.func240, Tryz.ntmps240
  go_wp2
  go_loopw [11] (fun i wr => ∃ k : Nat, k ≤ n ∧ i = .int .i64 k ∧ Hid (r = hldL m b k (xs.drop k)) ∧ Below w.heap.size w wr) (fun i _ => n - (intOf i).toNat)
  case atStart => exact ⟨0, Nat.zero_le _, rfl, HR, Below.refl _ _⟩
  case round =>
    obtain ⟨k, hk, rfl, HI, hB⟩ := hrel
    clear HR
    by_cases hlt : k < n
    · have hlt' : (k : Int) < (n : Int) := by omega
      obtain ⟨g, f, rfl, q0, q1, q2, q3⟩ := (h.below hB).at k hlt _ _ _ _ rfl
      have HH := hide (fun hu => hldL_hit (m := m) (b := b) (show k < xs.length by omega) hu)
      have HM := hide (fun hu => hldL_miss (m := m) (b := b) (show k < xs.length by omega) hu)
      generalize xs.getD k zSl = x at *
      obtain ⟨x0, x1, x2, x3⟩ := x
      dsimp only at q0 q1 q2 q3
      have HB := hide (hB.alloc hB.size (.cells #[.bool x0, .int .i64 x1, .int .i64 x2, .int .i64 x3] 134))
      clear hB h
      by_cases hu : usd m b (x0, x1, x2, x3)
      · have e := hide (show r = k from by rw [HI.out]; exact HH.out hu)
        obtain ⟨h0, h1, h2⟩ := hu
        dsimp only at h0 h1 h2
        subst h0 h1 h2
        clear HH HM
        go_wp2
        go_ret
        exact ⟨ret_int e.out.symm, HB.out⟩
      · have HN := hide (show r = hldL m b (k + 1) (xs.drop (k + 1)) from by rw [HI.out]; exact HM.out hu)
        have hu' : ¬ (x0 = true ∧ x1 = m ∧ x2 = b) := hu
        clear HH HM HI hu
        cases x0 with
        | false =>
          clear hu'
          go_wp2
          go_roundw
          case rel => exact ⟨k + 1, by omega, by go_num, HN, HB.out⟩
          case measure => simp [intOf]; omega
        | true =>
          by_cases c1 : x1 = m
          · have c2 : (x2 == b) = false := by simp; exact fun e => hu' ⟨rfl, c1, e⟩
            have c1' : (x1 == m) = true := by simp [c1]
            clear hu' c1
            go_wp2
            go_roundw
            case rel => exact ⟨k + 1, by omega, by go_num, HN, HB.out⟩
            case measure => simp [intOf]; omega
          · have c1' : (x1 == m) = false := by simp [c1]
            clear hu' c1
            go_wp2
            go_roundw
            case rel => exact ⟨k + 1, by omega, by go_num, HN, HB.out⟩
            case measure => simp [intOf]; omega
    · have e := hide (show r = -1 from by rw [HI.out, List.drop_eq_nil_of_le (by omega)]; rfl)
      have HB := hide hB
      clear hB
      go_wp2
      go_ret
      exact ⟨ret_int e.out.symm, HB.out⟩
set_option maxHeartbeats 4000000 in
theorem l7Holds_any (a : Option Addr) (n c : Nat) (xs : List SlT) (m b : Int) (w : World) (h : QS clSl zSl w a n c xs) :
    Calls Tryz.prog 246 #[.slice a n c, .int .i64 m, .int .i64 b] w fun e w' => e = .returned (.int .i64 (hld xs m b)) ∧ Below w.heap.size w w' := by
  have hl := h.1
  have hmx := h.2.1
  unfold maxLen at hmx
  obtain ⟨r, hr⟩ : ∃ r, r = hld xs m b := ⟨_, rfl⟩
  rw [← hr]
  have HR := hide hr
  clear hr
  go_enter Tryz.func246, Tryz.ntmps246
  go_wp2
  go_loopw [7] (fun i wr => ∃ k : Nat, k ≤ n ∧ i = .int .i64 k ∧ Hid (r = hldL m b k (xs.drop k)) ∧ Below w.heap.size w wr) (fun i _ => n - (intOf i).toNat)
  case atStart => exact ⟨0, Nat.zero_le _, rfl, HR, Below.refl _ _⟩
  case round =>
    obtain ⟨k, hk, rfl, HI, hB⟩ := hrel
    clear HR
    by_cases hlt : k < n
    · have hlt' : (k : Int) < (n : Int) := by omega
      obtain ⟨g, f, rfl, q0, q1, q2, q3⟩ := (h.below hB).at k hlt _ _ _ _ rfl
      have HH := hide (fun hu => hldL_hit (m := m) (b := b) (show k < xs.length by omega) hu)
      have HM := hide (fun hu => hldL_miss (m := m) (b := b) (show k < xs.length by omega) hu)
      generalize xs.getD k zSl = x at *
      obtain ⟨x0, x1, x2, x3⟩ := x
      dsimp only at q0 q1 q2 q3
      have HB := hide hB
      clear hB h q3
      by_cases hu : usd m b (x0, x1, x2, x3)
      · have e := hide (show r = k from by rw [HI.out]; exact HH.out hu)
        obtain ⟨h0, h1, h2⟩ := hu
        dsimp only at h0 h1 h2
        subst h0 h1 h2
        clear HH HM
        go_wp2
        go_ret
        exact ⟨ret_int e.out.symm, HB.out⟩
      · have HN := hide (show r = hldL m b (k + 1) (xs.drop (k + 1)) from by rw [HI.out]; exact HM.out hu)
        have hu' : ¬ (x0 = true ∧ x1 = m ∧ x2 = b) := hu
        clear HH HM HI hu
        cases x0 with
        | false =>
          clear hu'
          go_wp2
          go_roundw
          case rel => exact ⟨k + 1, by omega, by go_num, HN, HB.out⟩
          case measure => simp [intOf]; omega
        | true =>
          by_cases c1 : x1 = m
          · have c2 : (x2 == b) = false := by simp; exact fun e => hu' ⟨rfl, c1, e⟩
            have c1' : (x1 == m) = true := by simp [c1]
            clear hu' c1
            go_wp2
            go_roundw
            case rel => exact ⟨k + 1, by omega, by go_num, HN, HB.out⟩
            case measure => simp [intOf]; omega
          · have c1' : (x1 == m) = false := by simp [c1]
            clear hu' c1
            go_wp2
            go_roundw
            case rel => exact ⟨k + 1, by omega, by go_num, HN, HB.out⟩
            case measure => simp [intOf]; omega
    · have e := hide (show r = -1 from by rw [HI.out, List.drop_eq_nil_of_le (by omega)]; rfl)
      have HB := hide hB
      clear hB
      go_wp2
      go_ret
      exact ⟨ret_int e.out.symm, HB.out⟩
def put3 (w : World) (g o : Nat) (r x y : Bool) : World := ((w.setCell ⟨g, o + 3, none⟩ (.bool r)).setCell ⟨g, o + 4, none⟩ (.bool x)).setCell ⟨g, o + 5, none⟩ (.bool y)
theorem put3_other (w : World) (g o b o' : Nat) (r x y : Bool) (h : b ≠ g ∨ o' < o + 3 ∨ o + 6 ≤ o') : (put3 w g o r x y).cell? ⟨b, o', none⟩ = w.cell? ⟨b, o', none⟩ := by
  unfold put3
  rw [cell_other (by omega), cell_other (by omega), cell_other (by omega)]
theorem put3_at {w : World} {g o : Nat} {q : Rg} (h : At6 w g o q) (r x y : Bool) : At6 (put3 w g o r x y) g o (rgt r x y q) := by
  obtain ⟨h1, h2, h3, h4, h5, h6⟩ := h
  refine ⟨?_, ?_, ?_, ?_, ?_, ?_⟩
  · rw [put3_other _ _ _ _ _ _ _ _ (by omega)]; exact h1
  · rw [put3_other _ _ _ _ _ _ _ _ (by omega)]; exact h2
  · rw [put3_other _ _ _ _ _ _ _ _ (by omega)]; exact h3
  · unfold put3; rw [cell_other (by omega), cell_other (by omega)]; exact cell_same h4
  · unfold put3; rw [cell_other (by omega)]; exact cell_same (by rw [cell_other (by omega)]; exact h5)
  · unfold put3; exact cell_same (by rw [cell_other (by omega), cell_other (by omega)]; exact h6)
theorem put3_far {w : World} {g o b o' : Nat} {q : Rg} (h : At6 w b o' q) (r x y : Bool) (hf : b ≠ g ∨ o' + 6 ≤ o ∨ o + 6 ≤ o') : At6 (put3 w g o r x y) b o' q := by
  unfold At6
  rw [put3_other _ _ _ _ _ _ _ _ (by omega), put3_other _ _ _ _ _ _ _ _ (by omega), put3_other _ _ _ _ _ _ _ _ (by omega), put3_other _ _ _ _ _ _ _ _ (by omega), put3_other _ _ _ _ _ _ _ _ (by omega), put3_other _ _ _ _ _ _ _ _ (by omega)]
  exact h
def mixT (r x y : Bool) (C : List Rg) (k : Nat) : List Rg := (rts r x y C).take k ++ C.drop k
theorem mixT_len (r x y : Bool) (C : List Rg) (k : Nat) (h : k ≤ C.length) : (mixT r x y C k).length = C.length := by
  simp [mixT, rts_len]; omega
theorem mixT_at (r x y : Bool) (C : List Rg) (k i : Nat) (h : k ≤ C.length) (hi : i < C.length) : (mixT r x y C k).getD i z6 = if i < k then rgt r x y (C.getD i z6) else C.getD i z6 := by
  unfold mixT
  by_cases c : i < k
  · rw [if_pos c, List.getD_eq_getElem?_getD, List.getElem?_append_left (by simp [rts_len]; omega)]
    simp [rts, c, hi, List.getD_eq_getElem?_getD]
  · rw [if_neg c, List.getD_eq_getElem?_getD, List.getElem?_append_right (by simp [rts_len]; omega)]
    simp only [List.length_take, rts_len, List.getElem?_drop]
    rw [show k + (i - min k C.length) = i by omega, List.getD_eq_getElem?_getD]
theorem rowT_set {w : World} {g : Nat} {r x y : Bool} {C : List Rg} {k : Nat} (hk : k < C.length) (h : RowW w g (mixT r x y C k)) : RowW (put3 w g (k * 6) r x y) g (mixT r x y C (k + 1)) := by
  obtain ⟨⟨cur, hc⟩, hr⟩ := h
  refine ⟨⟨_, ((hc.set _ _).set _ _).set _ _⟩, fun i hi => ?_⟩
  rw [mixT_len _ _ _ _ _ (by omega)] at hi
  have hq := hr i (by rw [mixT_len _ _ _ _ _ (by omega)]; exact hi)
  rw [mixT_at _ _ _ _ _ _ (by omega) hi] at hq
  rw [mixT_at _ _ _ _ _ _ (by omega) hi]
  by_cases c : i = k
  · subst c
    rw [if_neg (by omega)] at hq
    rw [if_pos (by omega)]
    exact put3_at hq r x y
  · by_cases c2 : i < k
    · rw [if_pos c2] at hq
      rw [if_pos (by omega)]
      exact put3_far hq r x y (by omega)
    · rw [if_neg c2] at hq
      rw [if_neg (by omega)]
      exact put3_far hq r x y (by omega)
set_option maxHeartbeats 2000000 in
theorem regions_any (f s : Int) (r x y : Bool) (w : World) (hf : wfi f) (hs : wfi s) :
    Calls Tryz.prog 243 #[.agg #[.int .i64 f, .int .i64 s, .bool r, .bool x, .bool y]] w fun e w' => ∃ A n cap, e = .returned (.slice A n cap) ∧ RS w' A n cap (rts r x y (cvL f s)) ∧ (A = none → n = 0 ∧ cap = 0) ∧ Below w.heap.size w w' := by
  obtain ⟨W, hW⟩ : ∃ W, W = w.alloc (.cells #[.int .i64 f, .int .i64 s, .bool r, .bool x, .bool y] 232) := ⟨_, rfl⟩
  have HBW := hide (show Below w.heap.size w W by rw [hW]; exact (Below.refl _ _).alloc (Nat.le_refl _) _)
  have k0 : Blk W w.heap.size #[.int .i64 f, .int .i64 s, .bool r, .bool x, .bool y] 232 := by rw [hW]; exact Blk.new w _ _
  have sW : W.heap.size = w.heap.size + 1 := by rw [hW]; simp
  have d0 : W.cell? ⟨w.heap.size, 0, none⟩ = some (.int .i64 f) := k0.cell 0
  have d1 : W.cell? ⟨w.heap.size, 1, none⟩ = some (.int .i64 s) := k0.cell 1
  have HK := hide k0
  have HC := hide (iCover_any f s W (by unfold wfi at hf; omega))
  have HL := hide (cvL_len f s)
  generalize cvL f s = C at *
  have HW := hide hW
  clear hW k0
  go_enter Tryz.func243, Tryz.ntmps243
  go_wp2_with (rw [← HW.out])
  refine HC.out.mono ?_
  rintro e w2 ⟨c, n, cc, rfl, hC, hB2⟩
  have HN := hide (or_rs hC).1
  have hn : n ≤ 8192 := by have := HN.out; have := HL.out; omega
  have HX := hide (And.intro hC hB2)
  by_cases h0 : n = 0
  · subst h0
    clear hC hB2
    go_wp2_with fail
    go_loopw [16] (fun i wr => i = .int .i64 0 ∧ wr = w2) (fun _ _ => 0)
    case atStart => exact ⟨rfl, rfl⟩
    case round =>
      obtain ⟨rfl, rfl⟩ := hrel
      go_wp2
      go_ret
      have e0 : C = [] := List.eq_nil_of_length_eq_zero HN.out
      refine ⟨_, _, _, rfl, ?_, fun hc => ?_, HBW.out.trans (HX.out.2.mono HBW.out.size)⟩
      rotate_left
      · obtain ⟨hl, ⟨h1, _⟩ | ⟨g', cap', cur, hv, _⟩⟩ := HX.out.1.1
        · injection h1 with _ h1 h2; exact ⟨rfl, h2⟩
        · injection hv with h1; rw [hc] at h1; cases h1
      have := or_rs HX.out.1
      rw [e0] at this ⊢
      exact this
  · have hn0 : n ≠ 0 := h0
    obtain ⟨g, ha⟩ : ∃ g, c = some ⟨g, 0, none⟩ := by
      obtain ⟨hl, ⟨h1, _⟩ | ⟨g', cap', cur, hv, _⟩⟩ := hC.1
      · injection h1 with _ h1; exact absurd h1 hn0
      · injection hv with h1; exact ⟨g', h1⟩
    subst ha
    have HR := hide (or_roww hC hn0)
    have hg1 : W.heap.size ≤ g := by
      obtain ⟨hl, ⟨h1, _⟩ | ⟨g', cap', cur, hv, hg, _⟩⟩ := hC.1
      · injection h1 with _ h1; exact absurd h1 hn0
      · injection hv with h1; injection h1 with h1; injection h1 with h1; omega
    clear hC hB2
    go_wp2_with fail
    go_loopw [16] (fun i wr => ∃ k : Nat, k ≤ n ∧ i = .int .i64 k ∧ RowW wr g (mixT r x y C k) ∧ Below W.heap.size W wr) (fun i _ => n - (intOf i).toNat)
    case atStart => exact ⟨0, Nat.zero_le _, rfl, by simpa [mixT] using HR.out, HX.out.2⟩
    case round =>
      obtain ⟨k, hk, rfl, hR, hB⟩ := hrel
      by_cases hlt : k < n
      · have hlt' : (k : Int) < (n : Int) := by omega
        obtain ⟨p0, p1, p2, p3, p4, p5⟩ := hR.2 k (by rw [mixT_len _ _ _ _ _ (by rw [HN.out]; omega), HN.out]; exact hlt)
        have hfz := hR.frozen
        have kk := HK.out.below hB
        have e2 : wr.cell? ⟨w.heap.size, 2, none⟩ = some (.bool r) := kk.cell 2
        have e3 : wr.cell? ⟨w.heap.size, 3, none⟩ = some (.bool x) := kk.cell 3
        have e4 : wr.cell? ⟨w.heap.size, 4, none⟩ = some (.bool y) := kk.cell 4
        have HS := hide (rowT_set (by rw [HN.out]; exact hlt) hR)
        have HB3 := hide (show Below W.heap.size W ((put3 wr g (k * 6) r x y).drew) from (((hB.setCell (p := ⟨g, k * 6 + 3, none⟩) hg1 _).setCell (p := ⟨g, k * 6 + 4, none⟩) hg1 _).setCell (p := ⟨g, k * 6 + 5, none⟩) hg1 _).drew)
        clear hR hB kk
        generalize (mixT r x y C k).getD k z6 = G at *
        obtain ⟨g1, g2, g3, g4, g5, g6⟩ := G
        have hne : ¬ g = w.heap.size := by omega
        have hne' : ¬ w.heap.size = g := by omega
        have f3 := hfz (k * 6 + 3)
        have f4 := hfz (k * 6 + 4)
        have f5 := hfz (k * 6 + 5)
        clear hfz
        go_wp2
        go_region_with (fail)
        all_goals
          go_wp2
          go_roundw
          case rel => exact ⟨k + 1, by omega, by go_num, HS.out, HB3.out⟩
          case measure => simp [intOf]; omega
      · have HE := hide (show k = n by omega)
        have HF := hide (And.intro hR hB)
        clear hR hB
        go_wp2
        go_ret
        refine ⟨_, _, _, rfl, ?_, (fun hc => by cases hc), HBW.out.trans (HF.out.2.mono HBW.out.size)⟩
        have hRR := HF.out.1
        have e0 : mixT r x y C k = rts r x y C := by
          have hl := rts_len r x y C
          have := HN.out
          unfold mixT
          rw [List.drop_eq_nil_of_le (by rw [HE.out, this]; exact Nat.le_refl _), List.append_nil, List.take_of_length_le (by rw [hl, this, HE.out]; exact Nat.le_refl _)]
        rw [e0] at hRR
        refine ⟨by rw [rts_len]; exact HN.out, by unfold maxLen; omega, ?_, fun _ => ⟨g, 0, rfl, fun i hi => by have := hRR.2 i (by rw [rts_len, HN.out]; exact hi); rw [Nat.zero_add]; exact this⟩, (or_rs HX.out.1).2.2.2.2⟩
        intro q hq
        simp only [rts, List.mem_map] at hq
        obtain ⟨p, hp, rfl⟩ := hq
        exact HX.out.1.2 p hp
end Go.Proofs.YtngdgogjlpjjpaeGreat
