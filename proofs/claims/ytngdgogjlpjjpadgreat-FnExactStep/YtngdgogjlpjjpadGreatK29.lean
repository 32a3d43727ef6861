import Derived.Test.YtngdgogjlpjjpadGreatK14
import Derived.Test.YtngdgogjlpjjpadGreatK07
import Derived.Test.YtngdgogjlpjjpadGreatK15
namespace Go.Proofs.YtngdgogjlpjjpadGreat
open Go.RowKit
set_option linter.unusedVariables false
set_option linter.unusedSimpArgs false
set_option maxRecDepth 100000

/-- WHAT A VALID CORE IS. -/
def cok (pc : Int) (n : Nat) (zs : List Int) : Bool := decide (0 ≤ pc ∧ pc ≤ 4294967295 ∧ n = 8) && zs.all fun z => decide (0 ≤ z ∧ z ≤ 4294967295)
theorem cok_bad {pc : Int} {n : Nat} {zs : List Int} (k : Nat) (hk : k < zs.length) (h : ¬ (0 ≤ zs.getD k 0 ∧ zs.getD k 0 ≤ 4294967295)) : cok pc n zs = false := by
  unfold cok
  rw [Bool.and_eq_false_iff]
  right
  rw [List.all_eq_false]
  refine ⟨zs.getD k 0, ?_, by simpa using h⟩
  rw [List.getD_eq_getElem?_getD, List.getElem?_eq_getElem hk]
  exact List.getElem_mem hk
theorem cok_good {pc : Int} {zs : List Int} (h0 : 0 ≤ pc) (h1 : pc ≤ 4294967295) (hl : zs.length = 8) (h : ∀ j, j < 8 → 0 ≤ zs.getD j 0 ∧ zs.getD j 0 ≤ 4294967295) : cok pc 8 zs = true := by
  unfold cok
  rw [Bool.and_eq_true]
  refine ⟨by simp; omega, ?_⟩
  rw [List.all_eq_true]
  intro z hz
  obtain ⟨j, hj, rfl⟩ := List.getElem_of_mem hz
  have := h j (by omega)
  rw [List.getD_eq_getElem?_getD, List.getElem?_eq_getElem hj] at this
  simpa using this

set_option maxHeartbeats 1000000 in
theorem l3CoreOk_any (pc : Int) (a : Option Addr) (n cap : Nat) (zs : List Int) (w : World) (h : IS w a n cap zs) :
    Calls Tryz.prog 80 #[.agg #[.int .i64 pc, .slice a n cap]] w fun e w' => e = .returned (.bool (cok pc n zs)) ∧ Below w.heap.size w w' := by
  have hB0 : Below w.heap.size w (w.alloc (.cells #[.int .i64 pc, .slice a n cap] 58)) := (Below.refl _ _).alloc (Nat.le_refl _) _
  have hmx := h.2.1
  unfold maxLen at hmx
  have hl := h.1
  by_cases c1 : pc < 0
  · have HF : Hid (cok pc n zs = false) := by show _ = _; unfold cok; simp; omega
    rw [HF.out]
    go_enter Tryz.func80, Tryz.ntmps80
    go_wp2
    go_ret
    exact ⟨rfl, hB0⟩
  · by_cases c2 : 4294967295 < pc
    · have HF : Hid (cok pc n zs = false) := by show _ = _; unfold cok; simp; omega
      rw [HF.out]
      go_enter Tryz.func80, Tryz.ntmps80
      go_wp2
      go_ret
      exact ⟨rfl, hB0⟩
    · by_cases c3 : n = 8
      · subst c3
        obtain ⟨b, off, rfl⟩ := h.addr (by omega)
        have h' := h.below hB0
        have HB := hide hB0
        clear h hB0 hmx
        have h8 : (((8 : Nat) : Int) != 8) = false := by simp
        go_enter Tryz.func80, Tryz.ntmps80
        go_wp2
        go_loop [3] (fun i => ∃ k : Nat, k ≤ 8 ∧ i = .int .i64 k ∧ Hid (∀ j, j < k → 0 ≤ zs.getD j 0 ∧ zs.getD j 0 ≤ 4294967295)) (fun i => 8 - (intOf i).toNat)
        case atStart => exact ⟨0, by omega, rfl, hide (fun j hj => by omega)⟩
        case round =>
          obtain ⟨k, hk, rfl, HJ⟩ := hrel
          by_cases hlt : k < 8
          · have hlt' : (k : Int) < 8 := by omega
            have hc := h'.at k hlt
            have HZ := hide (show ∀ z, z = zs.getD k 0 → ¬ (0 ≤ z ∧ z ≤ 4294967295) → cok pc 8 zs = false from fun z hz hn => cok_bad k (by omega) (by rw [← hz]; exact hn))
            have HG := hide (show ∀ z, z = zs.getD k 0 → (0 ≤ z ∧ z ≤ 4294967295) → ∀ j, j < k + 1 → 0 ≤ zs.getD j 0 ∧ zs.getD j 0 ≤ 4294967295 from fun z hz hn j hj => by
              by_cases e : j = k
              · subst e; rw [← hz]; exact hn
              · exact HJ.out j (by omega))
            obtain ⟨z, hz⟩ : ∃ z, z = zs.getD k 0 := ⟨_, rfl⟩
            rw [← hz] at hc
            have HZ := hide (HZ.out z hz)
            have HG := hide (HG.out z hz)
            clear hz
            by_cases z0 : z < 0
            · have HX := hide (HZ.out (by omega))
              go_wp2
              go_ret
              exact ⟨ret_bool HX.out.symm, HB.out⟩
            · by_cases z1 : 4294967295 < z
              · have HX := hide (HZ.out (by omega))
                go_wp2
                go_ret
                exact ⟨ret_bool HX.out.symm, HB.out⟩
              · go_wp2
                go_round
                case rel => exact ⟨k + 1, by omega, by go_num, hide (HG.out (by omega))⟩
                case measure => simp [intOf]; omega
          · have e : Hid (cok pc 8 zs = true) := hide (cok_good (by omega) (by omega) hl (fun j hj => HJ.out j (by omega)))
            go_wp2
            go_ret
            exact ⟨ret_bool e.out.symm, HB.out⟩
      · have HF : Hid (cok pc n zs = false) := by show _ = _; unfold cok; simp; omega
        rw [HF.out]
        have h8 : ((n : Int) != 8) = true := by simp; omega
        go_enter Tryz.func80, Tryz.ntmps80
        go_wp2
        go_ret
        exact ⟨rfl, hB0⟩
set_option maxHeartbeats 1000000 in
theorem coreOk_any (pc : Int) (a : Option Addr) (n cap : Nat) (zs : List Int) (w : World) (h : IS w a n cap zs) :
    Calls Tryz.prog 93 #[.agg #[.int .i64 pc, .slice a n cap]] w fun e w' => e = .returned (.bool (cok pc n zs)) ∧ Below w.heap.size w w' := by
  have hB0 : Below w.heap.size w (w.alloc (.cells #[.int .i64 pc, .slice a n cap] 58)) := (Below.refl _ _).alloc (Nat.le_refl _) _
  have hmx := h.2.1
  unfold maxLen at hmx
  have hl := h.1
  have HIW := hide (fun v w => isWord_any v w)
  by_cases c1 : pc < 0
  · have HF : Hid (cok pc n zs = false) := by show _ = _; unfold cok; simp; omega
    rw [HF.out]
    have HW := hide (fun w => isWord_any pc w)
    rw [decide_eq_false (by omega)] at HW
    go_enter Tryz.func93, Tryz.ntmps93
    go_wp2_with (go_at_call 168; refine (HW.out _).mono ?_; rintro e w' ⟨rfl, rfl⟩)
    go_ret
    exact ⟨rfl, hB0⟩
  · by_cases c2 : 4294967295 < pc
    · have HF : Hid (cok pc n zs = false) := by show _ = _; unfold cok; simp; omega
      rw [HF.out]
      have HW := hide (fun w => isWord_any pc w)
      rw [decide_eq_false (by omega)] at HW
      go_enter Tryz.func93, Tryz.ntmps93
      go_wp2_with (go_at_call 168; refine (HW.out _).mono ?_; rintro e w' ⟨rfl, rfl⟩)
      go_ret
      exact ⟨rfl, hB0⟩
    · by_cases c3 : n = 8
      · subst c3
        obtain ⟨b, off, rfl⟩ := h.addr (by omega)
        have h' := h.below hB0
        have HB := hide hB0
        clear h hB0 hmx
        have h8 : (((8 : Nat) : Int) != 8) = false := by simp
        have HW := hide (fun w => isWord_any pc w)
        rw [decide_eq_true (by omega)] at HW
        go_enter Tryz.func93, Tryz.ntmps93
        go_wp2_with (go_at_call 168; refine (HW.out _).mono ?_; rintro e w' ⟨rfl, rfl⟩)
        go_loop [18] (fun i => ∃ k : Nat, k ≤ 8 ∧ i = .int .i64 k ∧ Hid (∀ j, j < k → 0 ≤ zs.getD j 0 ∧ zs.getD j 0 ≤ 4294967295)) (fun i => 8 - (intOf i).toNat)
        case atStart => exact ⟨0, by omega, rfl, hide (fun j hj => by omega)⟩
        case round =>
          obtain ⟨k, hk, rfl, HJ⟩ := hrel
          by_cases hlt : k < 8
          · have hlt' : (k : Int) < 8 := by omega
            have hc := h'.at k hlt
            have HZ := hide (show ∀ z, z = zs.getD k 0 → ¬ (0 ≤ z ∧ z ≤ 4294967295) → cok pc 8 zs = false from fun z hz hn => cok_bad k (by omega) (by rw [← hz]; exact hn))
            have HG := hide (show ∀ z, z = zs.getD k 0 → (0 ≤ z ∧ z ≤ 4294967295) → ∀ j, j < k + 1 → 0 ≤ zs.getD j 0 ∧ zs.getD j 0 ≤ 4294967295 from fun z hz hn j hj => by
              by_cases e : j = k
              · subst e; rw [← hz]; exact hn
              · exact HJ.out j (by omega))
            obtain ⟨z, hz⟩ : ∃ z, z = zs.getD k 0 := ⟨_, rfl⟩
            rw [← hz] at hc
            have HZ := hide (HZ.out z hz)
            have HG := hide (HG.out z hz)
            clear hz
            by_cases z0 : z < 0
            · have HX := hide (HZ.out (by omega))
              have HV := hide (fun w => isWord_any z w)
              rw [decide_eq_false (by omega)] at HV
              go_wp2_with (go_at_call 168; refine (HV.out _).mono ?_; rintro e w' ⟨rfl, rfl⟩)
              go_ret
              exact ⟨ret_bool HX.out.symm, HB.out⟩
            · by_cases z1 : 4294967295 < z
              · have HX := hide (HZ.out (by omega))
                have HV := hide (fun w => isWord_any z w)
                rw [decide_eq_false (by omega)] at HV
                go_wp2_with (go_at_call 168; refine (HV.out _).mono ?_; rintro e w' ⟨rfl, rfl⟩)
                go_ret
                exact ⟨ret_bool HX.out.symm, HB.out⟩
              · have HV := hide (fun w => isWord_any z w)
                rw [decide_eq_true (by omega)] at HV
                go_wp2_with (go_at_call 168; refine (HV.out _).mono ?_; rintro e w' ⟨rfl, rfl⟩)
                go_round
                case rel => exact ⟨k + 1, by omega, by go_num, hide (HG.out (by omega))⟩
                case measure => simp [intOf]; omega
          · have e : Hid (cok pc 8 zs = true) := hide (cok_good (by omega) (by omega) hl (fun j hj => HJ.out j (by omega)))
            go_wp2
            go_ret
            exact ⟨ret_bool e.out.symm, HB.out⟩
      · have HF : Hid (cok pc n zs = false) := by show _ = _; unfold cok; simp; omega
        rw [HF.out]
        have h8 : ((n : Int) != 8) = true := by simp; omega
        have HW := hide (fun w => isWord_any pc w)
        rw [decide_eq_true (by omega)] at HW
        go_enter Tryz.func93, Tryz.ntmps93
        go_wp2_with (go_at_call 168; refine (HW.out _).mono ?_; rintro e w' ⟨rfl, rfl⟩)
        go_ret
        exact ⟨rfl, hB0⟩
end Go.Proofs.YtngdgogjlpjjpadGreat

namespace Go.Proofs.YtngdgogjlpjjpadGreat
open Go.RowKit
set_option linter.unusedVariables false
set_option linter.unusedSimpArgs false
set_option maxRecDepth 100000

theorem oi_none (w : World) (base g : Nat) (hb : base ≤ g) (h : Blk w g #[] 3) : OI w base (.slice (some ⟨g, 0, none⟩) 0 0) [] :=
  ⟨⟨rfl, .inr ⟨g, 0, #[], rfl, hb, h, Nat.le_refl _, Nat.zero_le _, rfl, rfl⟩⟩, fun _ h => by cases h⟩
theorem oi_nil (w : World) (base : Nat) : OI w base (.slice none 0 0) [] := ⟨⟨rfl, .inl ⟨rfl, rfl⟩⟩, fun _ h => by cases h⟩

set_option maxHeartbeats 1000000 in
theorem l3Core_zero (pc : Int) (b off cap : Nat) (w : World) :
    Calls Tryz.prog 78 #[.agg #[.int .i64 pc, .slice (some ⟨b, off, none⟩) 0 cap]] w (CorePost w pc 0 []) := by
  obtain ⟨i0, hi, hz0, hz1, hz2⟩ := info_parts infoI
  go_enter Tryz.func78, Tryz.ntmps78
  go_wp2
  go_region_law (first
    | (refine step_append_room rfl _ _ 29 rfl 3 i0 1 Tryz.underlying29 hi hz1 (w.heap.size + 1 + 1) 0 0 0 rfl ⟨b, off, none⟩ 0 cap [] rfl rfl (by intro j u hj; simp at hj) (by intro u hu; simp at hu) (Nat.le_refl _) (by intro j hj; simp at hj) ?_; simp only [World.setCells]))
  all_goals
    have x3 := Blk.new ((w.alloc (.cells #[.int .i64 pc, .slice (some ⟨b, off, none⟩) 0 cap] 58)).alloc (.cells #[.int .i64 pc, .slice (some ⟨w.heap.size + 1 + 1, 0, none⟩) 0 0] 58)) #[] 3
    simp only [World.size_alloc] at x3
    have hB : Below w.heap.size w (((w.alloc (.cells #[.int .i64 pc, .slice (some ⟨b, off, none⟩) 0 cap] 58)).alloc (.cells #[.int .i64 pc, .slice (some ⟨w.heap.size + 1 + 1, 0, none⟩) 0 0] 58)).alloc (.cells #[] 3)) := (((Below.refl _ _).alloc (Nat.le_refl _) _).alloc (by simp) _).alloc (by simp; omega) _
    have HX := hide (And.intro x3 hB)
    clear x3 hB
    go_wp2
    exact bodyPost_ret (v := .agg #[.int .i64 pc, .slice (some ⟨w.heap.size + 1 + 1, 0, none⟩) 0 0]) (by simp [results, Tryz.results78, go_sem]) rfl ⟨_, _, rfl, oi_none _ _ _ (by omega) (by exact HX.out.1), HX.out.2.drew⟩
set_option maxHeartbeats 1000000 in
theorem copyCore_zero (pc : Int) (b off cap : Nat) (w : World) :
    Calls Tryz.prog 95 #[.agg #[.int .i64 pc, .slice (some ⟨b, off, none⟩) 0 cap]] w (CorePost w pc 0 []) := by
  obtain ⟨i0, hi, hz0, hz1, hz2⟩ := info_parts infoI
  go_enter Tryz.func95, Tryz.ntmps95
  go_wp2
  go_region
  all_goals
    have hB : Below w.heap.size w ((w.alloc (.cells #[.int .i64 pc, .slice (some ⟨b, off, none⟩) 0 cap] 58)).alloc (.cells #[.int .i64 pc, .slice none 0 0] 58)) := ((Below.refl _ _).alloc (Nat.le_refl _) _).alloc (by simp) _
    have HX := hide hB
    clear hB
    go_wp2
    exact bodyPost_ret (v := .agg #[.int .i64 pc, .slice none 0 0]) (by simp [results, Tryz.results95, go_sem]) rfl ⟨_, _, rfl, oi_nil _ _, HX.out.drew⟩

set_option maxHeartbeats 1000000 in
theorem copyCore_some (pc : Int) (b off n cap : Nat) (zs : List Int) (w : World) (h : IS w (some ⟨b, off, none⟩) n cap zs) (hn0 : 0 < n) (hn : n ≤ 1048576) :
    Calls Tryz.prog 95 #[.agg #[.int .i64 pc, .slice (some ⟨b, off, none⟩) n cap]] w (CorePost w pc n zs) := by
  obtain ⟨i0, hi, hz0, hz1, hz2⟩ := info_parts infoI
  have hl := h.1
  have hB0 : Below w.heap.size w ((w.alloc (.cells #[.int .i64 pc, .slice (some ⟨b, off, none⟩) n cap] 58)).alloc (.cells #[.int .i64 0, .slice none 0 0] 58)) := ((Below.refl _ _).alloc (Nat.le_refl _) _).alloc (by simp) _
  have h' := h.below hB0
  have kr := Blk.new (w.alloc (.cells #[.int .i64 pc, .slice (some ⟨b, off, none⟩) n cap] 58)) #[.int .i64 0, .slice none 0 0] 58
  simp only [World.size_alloc] at kr
  have hnews := hide (is_news h')
  have hone := hide (ints_oneCell .i64 zs)
  have hlen := hide (show (zs.map (Value.int .i64)).length = n * 1 by simp; omega)
  have HB := hide hB0
  have KR := hide kr
  have HH := hide h
  have kb := (Blk.new w #[.int .i64 pc, .slice (some ⟨b, off, none⟩) n cap] 58).alloc (.cells #[.int .i64 0, .slice none 0 0] 58)
  have KB := hide kb
  clear hB0 kr h h' kb
  go_enter Tryz.func95, Tryz.ntmps95
  go_wp2
  go_region_law (first
    | (refine step_append_lies _ rfl _ _ 29 rfl (w.heap.size + 1 + 1) 3 i0 (.int .i64 0) 1 8 Tryz.underlying29 hi hz0 hz1 hz2 rfl (by decide) (.slice none 0 0) 0 [] rfl ⟨rfl, .inl ⟨rfl, rfl⟩⟩ ⟨b, off, none⟩ n cap (zs.map (Value.int .i64)) rfl hlen.out (by exact hnews.out) hone.out hn0 (by unfold maxLen; omega) (by omega) (by simp only [heap_drew, World.size_alloc]; omega) _ rfl ?_; intro g cap1 w1 hown1 hgr1 hat1 hlt1; obtain ⟨c1, c2, c3⟩ := (grown_blk hgr1 (by exact KB.out) (by intro e; cases e)).two'; have kr1 := hide (grown_blk hgr1 (by exact KR.out) (by intro e; cases e)); obtain ⟨r1, r2, r3⟩ := kr1.out.two'))
  all_goals
    have hown2 : w1.ownsRow (w.heap.size + 1 + 1) 3 1 (.slice (some ⟨g, 0, none⟩) n cap1) n (zs.map (Value.int .i64)) := by simpa using hown1
    have o1 : OI w1 (w.heap.size + 1 + 1) (.slice (some ⟨g, 0, none⟩) n cap1) zs := ⟨by rw [hl]; exact hown2, HH.out.2.2.1⟩
    have hB1 : Below w.heap.size w w1 := HB.out.drew.grown hgr1 (by simp only [heap_drew, World.size_alloc]; omega) (fun k hk => by cases hk)
    have hz := (kr1.out.set 0 (.int .i64 pc)).set 1 (.slice (some ⟨g, 0, none⟩) n cap1)
    have o2 := ((o1.other ⟨w.heap.size + 1, 0, none⟩ (.int .i64 pc) (by dsimp only; omega)).other ⟨w.heap.size + 1, 1, none⟩ (.slice (some ⟨g, 0, none⟩) n cap1) (by dsimp only; omega)).mono (base' := w.heap.size) (by omega)
    have hB2 := (hB1.setCell (p := ⟨w.heap.size + 1, 0, none⟩) (by dsimp only; omega) (.int .i64 pc)).setCell (p := ⟨w.heap.size + 1, 1, none⟩) (by dsimp only; omega) (.slice (some ⟨g, 0, none⟩) n cap1)
    have hz' : Blk ((w1.setCell ⟨w.heap.size + 1, 0, none⟩ (.int .i64 pc)).setCell ⟨w.heap.size + 1, 1, none⟩ (.slice (some ⟨g, 0, none⟩) n cap1)) (w.heap.size + 1) #[.int .i64 pc, .slice (some ⟨g, 0, none⟩) n cap1] 58 := by simpa using hz
    obtain ⟨p1, p2, p3⟩ := hz'.two'
    have HX := hide (And.intro o2 hB2)
    clear hz hz' o1 o2 hB1 hB2 hown1 hown2 hgr1 hat1 hlt1
    go_wp2
    exact bodyPost_ret (v := .agg #[.int .i64 pc, .slice (some ⟨g, 0, none⟩) n cap1]) (by simp [results, Tryz.results95, go_sem, p1, p2]) rfl ⟨some ⟨g, 0, none⟩, cap1, rfl, HX.out.1, HX.out.2⟩

theorem l3Core_any (pc : Int) (b off n cap : Nat) (zs : List Int) (w : World) (h : IS w (some ⟨b, off, none⟩) n cap zs) (hn : n ≤ 1048576) :
    Calls Tryz.prog 78 #[.agg #[.int .i64 pc, .slice (some ⟨b, off, none⟩) n cap]] w (CorePost w pc n zs) := by
  by_cases h0 : n = 0
  · subst h0
    obtain rfl : zs = [] := List.eq_nil_of_length_eq_zero h.1
    exact l3Core_zero pc b off cap w
  · exact l3Core_some pc b off n cap zs w h (by omega) hn
theorem copyCore_any (pc : Int) (b off n cap : Nat) (zs : List Int) (w : World) (h : IS w (some ⟨b, off, none⟩) n cap zs) (hn : n ≤ 1048576) :
    Calls Tryz.prog 95 #[.agg #[.int .i64 pc, .slice (some ⟨b, off, none⟩) n cap]] w (CorePost w pc n zs) := by
  by_cases h0 : n = 0
  · subst h0
    obtain rfl : zs = [] := List.eq_nil_of_length_eq_zero h.1
    exact copyCore_zero pc b off cap w
  · exact copyCore_some pc b off n cap zs w h (by omega) hn
end Go.Proofs.YtngdgogjlpjjpadGreat
