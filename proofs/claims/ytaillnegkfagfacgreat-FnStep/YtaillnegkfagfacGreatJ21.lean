import Derived.Test.YtaillnegkfagfacGreatJ10
import Derived.Test.YtaillnegkfagfacGreatJ06
import Derived.Test.YtaillnegkfagfacGreatJ20
import Derived.Test.YtaillnegkfagfacGreatJ05
import Derived.Test.YtaillnegkfagfacGreatJ09
namespace Go.Proofs.YtaillnegkfagfacGreat
open Go.RowKit
set_option linter.unusedVariables false
set_option linter.unusedSimpArgs false
set_option maxRecDepth 100000

/-- WHAT A VALID CORE IS. -/
def cok (pc : Int) (n : Nat) (zs : List Int) : Bool := decide (0 ≤ pc ∧ pc ≤ 4294967295 ∧ n = 8) && zs.all fun z => decide (0 ≤ z ∧ z ≤ 4294967295)
theorem cok_bad {pc : Int} {n : Nat} {zs : List Int} (k : Nat) (hk : k < zs.length) (h : ¬ (0 ≤ zs.getD k 0 ∧ zs.getD k 0 ≤ 4294967295)) : cok pc n zs = false := by
  unfold cok
  rw [Bool.and_eq_false_iff]
  right
  rw [List.all_eq_false]
  refine ⟨zs.getD k 0, ?_, by simpa using h⟩
  rw [List.getD_eq_getElem?_getD, List.getElem?_eq_getElem hk]
  exact List.getElem_mem hk
theorem cok_good {pc : Int} {zs : List Int} (h0 : 0 ≤ pc) (h1 : pc ≤ 4294967295) (hl : zs.length = 8) (h : ∀ j, j < 8 → 0 ≤ zs.getD j 0 ∧ zs.getD j 0 ≤ 4294967295) : cok pc 8 zs = true := by
  unfold cok
  rw [Bool.and_eq_true]
  refine ⟨by simp; omega, ?_⟩
  rw [List.all_eq_true]
  intro z hz
  obtain ⟨j, hj, rfl⟩ := List.getElem_of_mem hz
  have := h j (by omega)
  rw [List.getD_eq_getElem?_getD, List.getElem?_eq_getElem hj] at this
  simpa using this

set_option maxHeartbeats 1000000 in
theorem l3CoreOk_any (pc : Int) (a : Option Addr) (n cap : Nat) (zs : List Int) (w : World) (h : IS w a n cap zs) :
    Calls Tryz.prog 17 #[.agg #[.int .i64 pc, .slice a n cap]] w fun e w' => e = .returned (.bool (cok pc n zs)) ∧ Below w.heap.size w w' := by
  have hB0 : Below w.heap.size w (w.alloc (.cells #[.int .i64 pc, .slice a n cap] 25)) := (Below.refl _ _).alloc (Nat.le_refl _) _
  have hmx := h.2.1
  unfold maxLen at hmx
  have hl := h.1
  by_cases c1 : pc < 0
  · have HF : Hid (cok pc n zs = false) := by show _ = _; unfold cok; simp; omega
    rw [HF.out]
    go_enter Tryz.func17, Tryz.ntmps17
    go_wp2
    go_ret
    exact ⟨rfl, hB0⟩
  · by_cases c2 : 4294967295 < pc
    · have HF : Hid (cok pc n zs = false) := by show _ = _; unfold cok; simp; omega
      rw [HF.out]
      go_enter Tryz.func17, Tryz.ntmps17
      go_wp2
      go_ret
      exact ⟨rfl, hB0⟩
    · by_cases c3 : n = 8
      · subst c3
        obtain ⟨b, off, rfl⟩ := h.addr (by omega)
        have h' := h.below hB0
        have HB := hide hB0
        clear h hB0 hmx
        have h8 : (((8 : Nat) : Int) != 8) = false := by simp
        go_enter Tryz.func17, Tryz.ntmps17
        go_wp2
        go_loop [3] (fun i => ∃ k : Nat, k ≤ 8 ∧ i = .int .i64 k ∧ Hid (∀ j, j < k → 0 ≤ zs.getD j 0 ∧ zs.getD j 0 ≤ 4294967295)) (fun i => 8 - (intOf i).toNat)
        case atStart => exact ⟨0, by omega, rfl, hide (fun j hj => by omega)⟩
        case round =>
          obtain ⟨k, hk, rfl, HJ⟩ := hrel
          by_cases hlt : k < 8
          · have hlt' : (k : Int) < 8 := by omega
            have hc := h'.at k hlt
            have HZ := hide (show ∀ z, z = zs.getD k 0 → ¬ (0 ≤ z ∧ z ≤ 4294967295) → cok pc 8 zs = false from fun z hz hn => cok_bad k (by omega) (by rw [← hz]; exact hn))
            have HG := hide (show ∀ z, z = zs.getD k 0 → (0 ≤ z ∧ z ≤ 4294967295) → ∀ j, j < k + 1 → 0 ≤ zs.getD j 0 ∧ zs.getD j 0 ≤ 4294967295 from fun z hz hn j hj => by
              by_cases e : j = k
              · subst e; rw [← hz]; exact hn
              · exact HJ.out j (by omega))
            obtain ⟨z, hz⟩ : ∃ z, z = zs.getD k 0 := ⟨_, rfl⟩
            rw [← hz] at hc
            have HZ := hide (HZ.out z hz)
            have HG := hide (HG.out z hz)
            clear hz
            by_cases z0 : z < 0
            · have HX := hide (HZ.out (by omega))
              go_wp2
              go_ret
              exact ⟨ret_bool HX.out.symm, HB.out⟩
            · by_cases z1 : 4294967295 < z
              · have HX := hide (HZ.out (by omega))
                go_wp2
                go_ret
                exact ⟨ret_bool HX.out.symm, HB.out⟩
              · go_wp2
                go_round
                case rel => exact ⟨k + 1, by omega, by go_num, hide (HG.out (by omega))⟩
                case measure => simp [intOf]; omega
          · have e : Hid (cok pc 8 zs = true) := hide (cok_good (by omega) (by omega) hl (fun j hj => HJ.out j (by omega)))
            go_wp2
            go_ret
            exact ⟨ret_bool e.out.symm, HB.out⟩
      · have HF : Hid (cok pc n zs = false) := by show _ = _; unfold cok; simp; omega
        rw [HF.out]
        have h8 : ((n : Int) != 8) = true := by simp; omega
        go_enter Tryz.func17, Tryz.ntmps17
        go_wp2
        go_ret
        exact ⟨rfl, hB0⟩
set_option maxHeartbeats 1000000 in
theorem coreOk_any (pc : Int) (a : Option Addr) (n cap : Nat) (zs : List Int) (w : World) (h : IS w a n cap zs) :
    Calls Tryz.prog 28 #[.agg #[.int .i64 pc, .slice a n cap]] w fun e w' => e = .returned (.bool (cok pc n zs)) ∧ Below w.heap.size w w' := by
  have hB0 : Below w.heap.size w (w.alloc (.cells #[.int .i64 pc, .slice a n cap] 25)) := (Below.refl _ _).alloc (Nat.le_refl _) _
  have hmx := h.2.1
  unfold maxLen at hmx
  have hl := h.1
  have HIW := hide (fun v w => isWord_any v w)
  by_cases c1 : pc < 0
  · have HF : Hid (cok pc n zs = false) := by show _ = _; unfold cok; simp; omega
    rw [HF.out]
    have HW := hide (fun w => isWord_any pc w)
    rw [decide_eq_false (by omega)] at HW
    go_enter Tryz.func28, Tryz.ntmps28
    go_wp2_with (go_at_call 49; refine (HW.out _).mono ?_; rintro e w' ⟨rfl, rfl⟩)
    go_ret
    exact ⟨rfl, hB0⟩
  · by_cases c2 : 4294967295 < pc
    · have HF : Hid (cok pc n zs = false) := by show _ = _; unfold cok; simp; omega
      rw [HF.out]
      have HW := hide (fun w => isWord_any pc w)
      rw [decide_eq_false (by omega)] at HW
      go_enter Tryz.func28, Tryz.ntmps28
      go_wp2_with (go_at_call 49; refine (HW.out _).mono ?_; rintro e w' ⟨rfl, rfl⟩)
      go_ret
      exact ⟨rfl, hB0⟩
    · by_cases c3 : n = 8
      · subst c3
        obtain ⟨b, off, rfl⟩ := h.addr (by omega)
        have h' := h.below hB0
        have HB := hide hB0
        clear h hB0 hmx
        have h8 : (((8 : Nat) : Int) != 8) = false := by simp
        have HW := hide (fun w => isWord_any pc w)
        rw [decide_eq_true (by omega)] at HW
        go_enter Tryz.func28, Tryz.ntmps28
        go_wp2_with (go_at_call 49; refine (HW.out _).mono ?_; rintro e w' ⟨rfl, rfl⟩)
        go_loop [18] (fun i => ∃ k : Nat, k ≤ 8 ∧ i = .int .i64 k ∧ Hid (∀ j, j < k → 0 ≤ zs.getD j 0 ∧ zs.getD j 0 ≤ 4294967295)) (fun i => 8 - (intOf i).toNat)
        case atStart => exact ⟨0, by omega, rfl, hide (fun j hj => by omega)⟩
        case round =>
          obtain ⟨k, hk, rfl, HJ⟩ := hrel
          by_cases hlt : k < 8
          · have hlt' : (k : Int) < 8 := by omega
            have hc := h'.at k hlt
            have HZ := hide (show ∀ z, z = zs.getD k 0 → ¬ (0 ≤ z ∧ z ≤ 4294967295) → cok pc 8 zs = false from fun z hz hn => cok_bad k (by omega) (by rw [← hz]; exact hn))
            have HG := hide (show ∀ z, z = zs.getD k 0 → (0 ≤ z ∧ z ≤ 4294967295) → ∀ j, j < k + 1 → 0 ≤ zs.getD j 0 ∧ zs.getD j 0 ≤ 4294967295 from fun z hz hn j hj => by
              by_cases e : j = k
              · subst e; rw [← hz]; exact hn
              · exact HJ.out j (by omega))
            obtain ⟨z, hz⟩ : ∃ z, z = zs.getD k 0 := ⟨_, rfl⟩
            rw [← hz] at hc
            have HZ := hide (HZ.out z hz)
            have HG := hide (HG.out z hz)
            clear hz
            by_cases z0 : z < 0
            · have HX := hide (HZ.out (by omega))
              have HV := hide (fun w => isWord_any z w)
              rw [decide_eq_false (by omega)] at HV
              go_wp2_with (go_at_call 49; refine (HV.out _).mono ?_; rintro e w' ⟨rfl, rfl⟩)
              go_ret
              exact ⟨ret_bool HX.out.symm, HB.out⟩
            · by_cases z1 : 4294967295 < z
              · have HX := hide (HZ.out (by omega))
                have HV := hide (fun w => isWord_any z w)
                rw [decide_eq_false (by omega)] at HV
                go_wp2_with (go_at_call 49; refine (HV.out _).mono ?_; rintro e w' ⟨rfl, rfl⟩)
                go_ret
                exact ⟨ret_bool HX.out.symm, HB.out⟩
              · have HV := hide (fun w => isWord_any z w)
                rw [decide_eq_true (by omega)] at HV
                go_wp2_with (go_at_call 49; refine (HV.out _).mono ?_; rintro e w' ⟨rfl, rfl⟩)
                go_round
                case rel => exact ⟨k + 1, by omega, by go_num, hide (HG.out (by omega))⟩
                case measure => simp [intOf]; omega
          · have e : Hid (cok pc 8 zs = true) := hide (cok_good (by omega) (by omega) hl (fun j hj => HJ.out j (by omega)))
            go_wp2
            go_ret
            exact ⟨ret_bool e.out.symm, HB.out⟩
      · have HF : Hid (cok pc n zs = false) := by show _ = _; unfold cok; simp; omega
        rw [HF.out]
        have h8 : ((n : Int) != 8) = true := by simp; omega
        have HW := hide (fun w => isWord_any pc w)
        rw [decide_eq_true (by omega)] at HW
        go_enter Tryz.func28, Tryz.ntmps28
        go_wp2_with (go_at_call 49; refine (HW.out _).mono ?_; rintro e w' ⟨rfl, rfl⟩)
        go_ret
        exact ⟨rfl, hB0⟩
end Go.Proofs.YtaillnegkfagfacGreat

namespace Go.Proofs.YtaillnegkfagfacGreat
open Go.RowKit
set_option linter.unusedVariables false
set_option linter.unusedSimpArgs false
set_option maxRecDepth 100000

theorem oi_none (w : World) (base g : Nat) (hb : base ≤ g) (h : Blk w g #[] 3) : OI w base (.slice (some ⟨g, 0, none⟩) 0 0) [] :=
  ⟨⟨rfl, .inr ⟨g, 0, #[], rfl, hb, h, Nat.le_refl _, Nat.zero_le _, rfl, rfl⟩⟩, fun _ h => by cases h⟩
theorem oi_nil (w : World) (base : Nat) : OI w base (.slice none 0 0) [] := ⟨⟨rfl, .inl ⟨rfl, rfl⟩⟩, fun _ h => by cases h⟩

set_option maxHeartbeats 1000000 in
theorem l3Core_zero (pc : Int) (b off cap : Nat) (w : World) :
    Calls Tryz.prog 15 #[.agg #[.int .i64 pc, .slice (some ⟨b, off, none⟩) 0 cap]] w (CorePost w pc 0 []) := by
  obtain ⟨i0, hi, hz0, hz1, hz2⟩ := info_parts infoI
  go_enter Tryz.func15, Tryz.ntmps15
  go_wp2
  go_region_law (first
    | (refine step_append_room rfl _ _ 23 rfl 3 i0 1 Tryz.underlying23 hi hz1 (w.heap.size + 1 + 1) 0 0 0 rfl ⟨b, off, none⟩ 0 cap [] rfl rfl (by intro j u hj; simp at hj) (by intro u hu; simp at hu) (Nat.le_refl _) (by intro j hj; simp at hj) ?_; simp only [World.setCells]))
  all_goals
    have x3 := Blk.new ((w.alloc (.cells #[.int .i64 pc, .slice (some ⟨b, off, none⟩) 0 cap] 25)).alloc (.cells #[.int .i64 pc, .slice (some ⟨w.heap.size + 1 + 1, 0, none⟩) 0 0] 25)) #[] 3
    simp only [World.size_alloc] at x3
    have hB : Below w.heap.size w (((w.alloc (.cells #[.int .i64 pc, .slice (some ⟨b, off, none⟩) 0 cap] 25)).alloc (.cells #[.int .i64 pc, .slice (some ⟨w.heap.size + 1 + 1, 0, none⟩) 0 0] 25)).alloc (.cells #[] 3)) := (((Below.refl _ _).alloc (Nat.le_refl _) _).alloc (by simp) _).alloc (by simp; omega) _
    have HX := hide (And.intro x3 hB)
    clear x3 hB
    go_wp2
    exact bodyPost_ret (v := .agg #[.int .i64 pc, .slice (some ⟨w.heap.size + 1 + 1, 0, none⟩) 0 0]) (by simp [results, Tryz.results15, go_sem]) rfl ⟨_, _, rfl, oi_none _ _ _ (by omega) (by exact HX.out.1), HX.out.2.drew⟩
set_option maxHeartbeats 1000000 in
theorem copyCore_zero (pc : Int) (b off cap : Nat) (w : World) :
    Calls Tryz.prog 30 #[.agg #[.int .i64 pc, .slice (some ⟨b, off, none⟩) 0 cap]] w (CorePost w pc 0 []) := by
  obtain ⟨i0, hi, hz0, hz1, hz2⟩ := info_parts infoI
  go_enter Tryz.func30, Tryz.ntmps30
  go_wp2
  go_region
  all_goals
    have hB : Below w.heap.size w ((w.alloc (.cells #[.int .i64 pc, .slice (some ⟨b, off, none⟩) 0 cap] 25)).alloc (.cells #[.int .i64 pc, .slice none 0 0] 25)) := ((Below.refl _ _).alloc (Nat.le_refl _) _).alloc (by simp) _
    have HX := hide hB
    clear hB
    go_wp2
    exact bodyPost_ret (v := .agg #[.int .i64 pc, .slice none 0 0]) (by simp [results, Tryz.results30, go_sem]) rfl ⟨_, _, rfl, oi_nil _ _, HX.out.drew⟩

set_option maxHeartbeats 1000000 in
theorem copyCore_some (pc : Int) (b off n cap : Nat) (zs : List Int) (w : World) (h : IS w (some ⟨b, off, none⟩) n cap zs) (hn0 : 0 < n) (hn : n ≤ 1048576) :
    Calls Tryz.prog 30 #[.agg #[.int .i64 pc, .slice (some ⟨b, off, none⟩) n cap]] w (CorePost w pc n zs) := by
  obtain ⟨i0, hi, hz0, hz1, hz2⟩ := info_parts infoI
  have hl := h.1
  have hB0 : Below w.heap.size w ((w.alloc (.cells #[.int .i64 pc, .slice (some ⟨b, off, none⟩) n cap] 25)).alloc (.cells #[.int .i64 0, .slice none 0 0] 25)) := ((Below.refl _ _).alloc (Nat.le_refl _) _).alloc (by simp) _
  have h' := h.below hB0
  have kr := Blk.new (w.alloc (.cells #[.int .i64 pc, .slice (some ⟨b, off, none⟩) n cap] 25)) #[.int .i64 0, .slice none 0 0] 25
  simp only [World.size_alloc] at kr
  have hnews := hide (is_news h')
  have hone := hide (ints_oneCell .i64 zs)
  have hlen := hide (show (zs.map (Value.int .i64)).length = n * 1 by simp; omega)
  have HB := hide hB0
  have KR := hide kr
  have HH := hide h
  have kb := (Blk.new w #[.int .i64 pc, .slice (some ⟨b, off, none⟩) n cap] 25).alloc (.cells #[.int .i64 0, .slice none 0 0] 25)
  have KB := hide kb
  clear hB0 kr h h' kb
  go_enter Tryz.func30, Tryz.ntmps30
  go_wp2
  go_region_law (first
    | (refine step_append_lies _ rfl _ _ 23 rfl (w.heap.size + 1 + 1) 3 i0 (.int .i64 0) 1 8 Tryz.underlying23 hi hz0 hz1 hz2 rfl (by decide) (.slice none 0 0) 0 [] rfl ⟨rfl, .inl ⟨rfl, rfl⟩⟩ ⟨b, off, none⟩ n cap (zs.map (Value.int .i64)) rfl hlen.out (by exact hnews.out) hone.out hn0 (by unfold maxLen; omega) (by omega) (by simp only [heap_drew, World.size_alloc]; omega) _ rfl ?_; intro g cap1 w1 hown1 hgr1 hat1 hlt1; obtain ⟨c1, c2, c3⟩ := (grown_blk hgr1 (by exact KB.out) (by intro e; cases e)).two'; have kr1 := hide (grown_blk hgr1 (by exact KR.out) (by intro e; cases e)); obtain ⟨r1, r2, r3⟩ := kr1.out.two'))
  all_goals
    have hown2 : w1.ownsRow (w.heap.size + 1 + 1) 3 1 (.slice (some ⟨g, 0, none⟩) n cap1) n (zs.map (Value.int .i64)) := by simpa using hown1
    have o1 : OI w1 (w.heap.size + 1 + 1) (.slice (some ⟨g, 0, none⟩) n cap1) zs := ⟨by rw [hl]; exact hown2, HH.out.2.2.1⟩
    have hB1 : Below w.heap.size w w1 := HB.out.drew.grown hgr1 (by simp only [heap_drew, World.size_alloc]; omega) (fun k hk => by cases hk)
    have hz := (kr1.out.set 0 (.int .i64 pc)).set 1 (.slice (some ⟨g, 0, none⟩) n cap1)
    have o2 := ((o1.other ⟨w.heap.size + 1, 0, none⟩ (.int .i64 pc) (by dsimp only; omega)).other ⟨w.heap.size + 1, 1, none⟩ (.slice (some ⟨g, 0, none⟩) n cap1) (by dsimp only; omega)).mono (base' := w.heap.size) (by omega)
    have hB2 := (hB1.setCell (p := ⟨w.heap.size + 1, 0, none⟩) (by dsimp only; omega) (.int .i64 pc)).setCell (p := ⟨w.heap.size + 1, 1, none⟩) (by dsimp only; omega) (.slice (some ⟨g, 0, none⟩) n cap1)
    have hz' : Blk ((w1.setCell ⟨w.heap.size + 1, 0, none⟩ (.int .i64 pc)).setCell ⟨w.heap.size + 1, 1, none⟩ (.slice (some ⟨g, 0, none⟩) n cap1)) (w.heap.size + 1) #[.int .i64 pc, .slice (some ⟨g, 0, none⟩) n cap1] 25 := by simpa using hz
    obtain ⟨p1, p2, p3⟩ := hz'.two'
    have HX := hide (And.intro o2 hB2)
    clear hz hz' o1 o2 hB1 hB2 hown1 hown2 hgr1 hat1 hlt1
    go_wp2
    exact bodyPost_ret (v := .agg #[.int .i64 pc, .slice (some ⟨g, 0, none⟩) n cap1]) (by simp [results, Tryz.results30, go_sem, p1, p2]) rfl ⟨some ⟨g, 0, none⟩, cap1, rfl, HX.out.1, HX.out.2⟩

theorem l3Core_any (pc : Int) (b off n cap : Nat) (zs : List Int) (w : World) (h : IS w (some ⟨b, off, none⟩) n cap zs) (hn : n ≤ 1048576) :
    Calls Tryz.prog 15 #[.agg #[.int .i64 pc, .slice (some ⟨b, off, none⟩) n cap]] w (CorePost w pc n zs) := by
  by_cases h0 : n = 0
  · subst h0
    obtain rfl : zs = [] := List.eq_nil_of_length_eq_zero h.1
    exact l3Core_zero pc b off cap w
  · exact l3Core_some pc b off n cap zs w h (by omega) hn
theorem copyCore_any (pc : Int) (b off n cap : Nat) (zs : List Int) (w : World) (h : IS w (some ⟨b, off, none⟩) n cap zs) (hn : n ≤ 1048576) :
    Calls Tryz.prog 30 #[.agg #[.int .i64 pc, .slice (some ⟨b, off, none⟩) n cap]] w (CorePost w pc n zs) := by
  by_cases h0 : n = 0
  · subst h0
    obtain rfl : zs = [] := List.eq_nil_of_length_eq_zero h.1
    exact copyCore_zero pc b off cap w
  · exact copyCore_some pc b off n cap zs w h (by omega) hn
end Go.Proofs.YtaillnegkfagfacGreat

namespace Go.Proofs.YtaillnegkfagfacGreat
open Go.RowKit
set_option linter.unusedVariables false
set_option linter.unusedSimpArgs false
set_option maxRecDepth 100000

theorem oi_ne {W : World} {base G : Nat} {v : Value} {zs : List Int} {cs : Array Value} {t : TypeId} (h : OI W base v zs) (hk : Blk W G cs t) (ht : t ≠ 3) : v.ownBlock ≠ some G := by
  obtain ⟨hl, ⟨h0, _⟩ | ⟨g, cap, cur, rfl, hg, hh, _⟩⟩ := h.1
  · rw [h0]; intro e; cases e
  · intro e
    have e' : some g = some G := e
    injection e' with e'
    subst e'
    unfold Blk at hk
    rw [hh] at hk
    simp at hk
    exact ht hk.2.symm
/-- WHAT Step GIVES. -/
def StPost (w : World) (r : Res) (e : Ending) (w' : World) : Prop :=
  ∃ ca nr cc a1 m1 d1 a2 m2 d2 a3 m3 d3, e = .returned (.tuple #[.agg #[.int .i64 r.pc, .slice ca nr cc], .agg #[.slice a1 m1 d1, .slice a2 m2 d2, .slice a3 m3 d3], .int .i64 r.did, .int .i64 r.num]) ∧
    OI w' w.heap.size (.slice ca nr cc) r.rg ∧ Own3 w' w.heap.size (.slice a1 m1 d1) (.slice a2 m2 d2) (.slice a3 m3 d3) r.x1 r.x2 r.x3 ∧ Below w.heap.size w w'
def setC (W : World) (R : Nat) (x y : Value) : World := (W.setCell ⟨R, 0, none⟩ x).setCell ⟨R, 1, none⟩ y
def setM (W : World) (R : Nat) (x y z : Value) : World := ((W.setCell ⟨R, 0, none⟩ x).setCell ⟨R, 1, none⟩ y).setCell ⟨R, 2, none⟩ z
theorem st_fin {w W X : World} {R base : Nat} {pc : Int} {c v1 v2 v3 u0 u1 t0 t1 t2 : Value} {zs x1 x2 x3 : List Int} (ho : OI W base c zs) (hm : Own3 W base v1 v2 v3 x1 x2 x3) (kr : Blk W R #[u0, u1] 25) (km : Blk W (R + 1) #[t0, t1, t2] 27)
    (hB : Below w.heap.size w W) (hb : w.heap.size ≤ base) (hR : w.heap.size ≤ R)
    (hX : X = setM (setC W R (.int .i64 pc) c) (R + 1) v1 v2 v3 ∨ X = setC (setM W (R + 1) v1 v2 v3) R (.int .i64 pc) c) :
    (OI X w.heap.size c zs ∧ Own3 X w.heap.size v1 v2 v3 x1 x2 x3 ∧ Below w.heap.size w X) ∧
      X.cell? ⟨R, 0, none⟩ = some (.int .i64 pc) ∧ X.cell? ⟨R, 1, none⟩ = some c ∧ X.cell? ⟨R + 1, 0, none⟩ = some v1 ∧ X.cell? ⟨R + 1, 1, none⟩ = some v2 ∧ X.cell? ⟨R + 1, 2, none⟩ = some v3 := by
  have key : Turn (fun j => j = R ∨ j = R + 1) W X ∧ Blk X R #[.int .i64 pc, c] 25 ∧ Blk X (R + 1) #[v1, v2, v3] 27 := by
    rcases hX with rfl | rfl
    · refine ⟨(((turn_setg _ _ _ _).trans (turn_setg _ _ _ _)).mono (fun k e => Or.inl e)).trans ((((turn_setg _ _ _ _).trans (turn_setg _ _ _ _)).trans (turn_setg _ _ _ _)).mono (fun k e => Or.inr e)), ?_, ?_⟩
      · have k1 := ((((kr.set 0 (.int .i64 pc)).set 1 c).other ⟨R + 1, 0, none⟩ v1 (by dsimp only; omega)).other ⟨R + 1, 1, none⟩ v2 (by dsimp only; omega)).other ⟨R + 1, 2, none⟩ v3 (by dsimp only; omega)
        simpa [setC, setM] using k1
      · have k1 := ((((km.other ⟨R, 0, none⟩ (.int .i64 pc) (by dsimp only; omega)).other ⟨R, 1, none⟩ c (by dsimp only; omega)).set 0 v1).set 1 v2).set 2 v3
        simpa [setC, setM] using k1
    · refine ⟨((((turn_setg _ _ _ _).trans (turn_setg _ _ _ _)).trans (turn_setg _ _ _ _)).mono (fun k e => Or.inr e)).trans (((turn_setg _ _ _ _).trans (turn_setg _ _ _ _)).mono (fun k e => Or.inl e)), ?_, ?_⟩
      · have k1 := ((((kr.other ⟨R + 1, 0, none⟩ v1 (by dsimp only; omega)).other ⟨R + 1, 1, none⟩ v2 (by dsimp only; omega)).other ⟨R + 1, 2, none⟩ v3 (by dsimp only; omega)).set 0 (.int .i64 pc)).set 1 c
        simpa [setC, setM] using k1
      · have k1 := ((((km.set 0 v1).set 1 v2).set 2 v3).other ⟨R, 0, none⟩ (.int .i64 pc) (by dsimp only; omega)).other ⟨R, 1, none⟩ c (by dsimp only; omega)
        simpa [setC, setM] using k1
  obtain ⟨T, k1, k2⟩ := key
  have nb : ∀ {v : Value} {ys : List Int}, OB W base v ys → ∀ k, v.ownBlock = some k → ¬ (k = R ∨ k = R + 1) := fun h k hk e => by
    rcases e with e | e
    · exact ob_ne h kr (by decide) (by rw [hk, e])
    · exact ob_ne h km (by decide) (by rw [hk, e])
  have ni : ∀ k, c.ownBlock = some k → ¬ (k = R ∨ k = R + 1) := fun k hk e => by
    rcases e with e | e
    · exact oi_ne ho kr (by decide) (by rw [hk, e])
    · exact oi_ne ho km (by decide) (by rw [hk, e])
  refine ⟨⟨(turn_oi T ho ni).mono hb, own3_mono ⟨turn_ob T hm.1 (nb hm.1), turn_ob T hm.2.1 (nb hm.2.1), turn_ob T hm.2.2.1 (nb hm.2.2.1), hm.2.2.2⟩ hb, below_turn hB T (fun k e => by rcases e with e | e <;> omega) hB.size⟩, ?_, ?_, ?_, ?_, ?_⟩
  · rw [k1.cell]; rfl
  · rw [k1.cell]; rfl
  · rw [k2.cell]; rfl
  · rw [k2.cell]; rfl
  · rw [k2.cell]; rfl
end Go.Proofs.YtaillnegkfagfacGreat

namespace Go.Proofs.YtaillnegkfagfacGreat
open Go.RowKit
set_option linter.unusedVariables false

/-- THE READER OF THE DRAWS at block r, behind k reads. -/
structure Rdr (W : World) (r : Nat) (a : Option Addr) (n c : Nat) (zs : List Int) (k : Nat) : Prop where
  blk : Blk W r #[.slice a n c, .int .i64 ((min k n : Nat) : Int)] 74
  bs : BS W a n c zs
  small : n ≤ 1000
  far : n ≠ 0 → ∀ b off, a = some ⟨b, off, none⟩ → b ≠ r
theorem rdr_below {W W' : World} {r : Nat} {a : Option Addr} {n c : Nat} {zs : List Int} {k : Nat} (h : Rdr W r a n c zs k) (hb : Below W.heap.size W W') : Rdr W' r a n c zs k := ⟨h.blk.below hb, h.bs.below hb, h.small, h.far⟩
theorem Blk.two {w : World} {g : Nat} {a b : Value} {t : TypeId} (h : Blk w g #[a, b] t) : w.cell? ⟨g, 0, none⟩ = some a ∧ w.cell? ⟨g, 1, none⟩ = some b ∧ ∀ i, w.frozen? ⟨g, i, none⟩ = false :=
  ⟨by rw [h.cell]; rfl, by rw [h.cell]; rfl, fun i => h.frozen i⟩

theorem turn_bs' {S : Nat → Prop} {w w' : World} {a : Option Addr} {n cap : Nat} {zs : List Int} (ht : Turn S w w') (h : BS w a n cap zs) (hk : n ≠ 0 → ∀ k, S k → ∀ b off, a = some ⟨b, off, none⟩ → b ≠ k) : BS w' a n cap zs := by
  by_cases hn : n = 0
  · exact ⟨h.1, h.2.1, h.2.2.1, fun e => absurd hn e, h.2.2.2.2⟩
  · exact turn_bs ht h (hk hn)
theorem turn_set (w : World) (r i : Nat) (v : Value) : Turn (fun j => j = r) w (w.setCell ⟨r, i, none⟩ v) := ⟨rfl, rfl, rfl, by rw [size_setCell]; exact Nat.le_refl _, fun j hj hn => heap_setCell_other _ _ _ _ hn⟩

set_option maxHeartbeats 1000000 in
theorem l1Open_any (a : Option Addr) (n c n' : Nat) (zs : List Int) (w : World) (h : BS w a n c zs) (hn' : n' = min n 1000) :
    Calls Tryz.prog 8 #[.slice a n c] w fun e w' => e = .returned (.pointer (some ⟨w.heap.size, 0, none⟩)) ∧ Rdr w' w.heap.size a n' c (zs.take 1000) 0 ∧ Below w.heap.size w w' := by
  have hm := h.2.1
  unfold maxLen at hm
  have hl := h.1
  have hcap := h.2.2.2.2
  have hB : ∀ o, Below w.heap.size w (w.alloc o) := fun o => (Below.refl _ _).alloc (Nat.le_refl _) _
  have hfar : n ≠ 0 → ∀ b off, a = some ⟨b, off, none⟩ → b < w.heap.size := by
    intro hn b off e
    subst e
    exact World.block_lt_of_cell? w _ (h.at 0 (by omega))
  have HFAR := hide hfar
  clear hfar
  by_cases hn : (1000 : Int) < (n : Int)
  · obtain ⟨b, off, rfl⟩ := h.some (by omega)
    have h' := (h.take 1000 (by omega))
    have hn1 : n' = 1000 := by omega
    subst hn1
    clear hn'
    go_enter Tryz.func8, Tryz.ntmps8
    go_wp2
    go_ret
    exact ⟨rfl, ⟨Blk.new w _ _, h'.below (hB _), Nat.le_refl _, fun _ b' off' e => by have := HFAR.out (by omega) b' off' e; omega⟩, hB _⟩
  · have ht : zs.take 1000 = zs := List.take_of_length_le (by omega)
    rw [ht]
    have hn1 : n' = n := by omega
    subst hn1
    clear hn' ht
    have HB := hide hB
    have H := hide h
    clear hB h
    go_enter Tryz.func8, Tryz.ntmps8
    go_wp2
    go_ret
    exact ⟨rfl, ⟨by rw [Nat.zero_min]; exact Blk.new w _ _, H.out.below (HB.out _), by omega, fun h0 b' off' e => by have := HFAR.out h0 b' off' e; omega⟩, HB.out _⟩

set_option maxHeartbeats 1000000 in
theorem next_any (r : Nat) (a : Option Addr) (n c : Nat) (zs : List Int) (k : Nat) (w : World) (h : Rdr w r a n c zs k) :
    Calls Tryz.prog 9 #[.pointer (some ⟨r, 0, none⟩)] w fun e w' => e = .returned (.int .i64 (zs.getD k 0)) ∧ Rdr w' r a n c zs (k + 1) ∧ Turn (fun j => j = r) w w' := by
  obtain ⟨q1, q2, q3⟩ := h.blk.two
  have hs := h.small
  have hl := h.bs.1
  by_cases hlt : k < n
  · have e1 : min k n = k := by omega
    rw [e1] at q2
    have hlt' : (k : Int) < (n : Int) := by omega
    obtain ⟨b, off, rfl⟩ := h.bs.some (by omega)
    have hc := h.bs.at k hlt
    have hr := h.bs.range k
    have hfin : Rdr (w.setCell ⟨r, 1, none⟩ (.int .i64 ((k : Int) + 1))) r (some ⟨b, off, none⟩) n c zs (k + 1) := by
      refine ⟨?_, ?_, hs, h.far⟩
      · have := h.blk.set 1 (.int .i64 ((k : Int) + 1))
        rw [show (min (k + 1) n) = k + 1 by omega]
        simpa using this
      · refine turn_bs' (turn_set w r 1 _) h.bs ?_
        intro h0 j hj b' off' e
        subst hj
        exact h.far h0 b' off' e
    have HF := hide hfin
    have HT := hide (turn_set w r 1 (.int .i64 ((k : Int) + 1)))
    clear hfin h e1
    generalize zs.getD k 0 = z at *
    obtain ⟨z0, z1⟩ := hr
    go_enter Tryz.func9, Tryz.ntmps9
    go_wp2
    go_quiet (fail)
    go_wp2
    go_quiet (fail)
    go_wp2
    go_ret
    exact ⟨rfl, ⟨HF.out.blk, HF.out.bs, HF.out.small, HF.out.far⟩, ⟨HT.out.os, HT.out.tape, HT.out.output, HT.out.size, HT.out.block⟩⟩
  · have e1 : min k n = n := by omega
    rw [e1] at q2
    have e0 : zs.getD k 0 = 0 := by simp [List.getD_eq_getElem?_getD, show zs.length ≤ k by omega]
    have hfin : Rdr w r a n c zs (k + 1) := ⟨by rw [show min (k + 1) n = min k n by omega]; exact h.blk, h.bs, hs, h.far⟩
    have HF := hide hfin
    rw [e0]
    have hd : ((n : Int) < (n : Int)) = False := by simp
    clear hfin h e1 e0
    go_enter Tryz.func9, Tryz.ntmps9
    go_wp2
    go_quiet (fail)
    go_wp2
    go_ret
    exact ⟨rfl, ⟨HF.out.blk, HF.out.bs, HF.out.small, HF.out.far⟩, ⟨rfl, rfl, rfl, Nat.le_refl _, fun _ _ _ => rfl⟩⟩
theorem next_is (r : Nat) (a : Option Addr) (n c : Nat) (zs : List Int) (k : Nat) (v : Int) (w : World) (h : Rdr w r a n c zs k) (hv : Hid (zs.getD k 0 = v)) :
    Calls Tryz.prog 9 #[.pointer (some ⟨r, 0, none⟩)] w fun e w' => e = .returned (.int .i64 v) ∧ Rdr w' r a n c zs (k + 1) ∧ Turn (fun j => j = r) w w' :=
  (next_any r a n c zs k w h).mono fun e w' he => ⟨by rw [he.1, hv.out], he.2⟩
theorem draw_is {w : World} {a : Option Addr} {n c : Nat} {zs : List Int} (h : BS w a n c zs) (k : Nat) : ∃ v : Int, Hid (zs.getD k 0 = v) ∧ 0 ≤ v ∧ v ≤ 255 := ⟨_, rfl, (h.range k).1, (h.range k).2⟩
end Go.Proofs.YtaillnegkfagfacGreat

namespace Go.Proofs.YtaillnegkfagfacGreat
open Go.RowKit
set_option linter.unusedVariables false

def set6 (w : World) (g o : Nat) (r : Rg) : World :=
  (((((w.setCell ⟨g, o, none⟩ (.int .i64 r.1)).setCell ⟨g, o + 1, none⟩ (.int .i64 r.2.1)).setCell ⟨g, o + 2, none⟩ (.int .i64 r.2.2.1)).setCell ⟨g, o + 3, none⟩ (.bool r.2.2.2.1)).setCell ⟨g, o + 4, none⟩ (.bool r.2.2.2.2.1)).setCell ⟨g, o + 5, none⟩ (.bool r.2.2.2.2.2)

theorem cell_other {w : World} {g o o' b : Nat} {v : Value} (h : b ≠ g ∨ o' ≠ o) : (w.setCell ⟨g, o, none⟩ v).cell? ⟨b, o', none⟩ = w.cell? ⟨b, o', none⟩ :=
  World.cell?_setCell_other _ _ _ _ (by intro e; injection e; rcases h with h | h <;> simp_all)
theorem cell_same {w : World} {g o : Nat} {u v : Value} (h : w.cell? ⟨g, o, none⟩ = some u) : (w.setCell ⟨g, o, none⟩ v).cell? ⟨g, o, none⟩ = some v := World.cell?_setCell_same _ _ _ h

theorem set6_other (w : World) (g o b o' : Nat) (r : Rg) (h : b ≠ g ∨ o' < o ∨ o + 6 ≤ o') : (set6 w g o r).cell? ⟨b, o', none⟩ = w.cell? ⟨b, o', none⟩ := by
  unfold set6
  rw [cell_other (by omega), cell_other (by omega), cell_other (by omega), cell_other (by omega), cell_other (by omega), cell_other (by omega)]
theorem set6_at {w : World} {g o : Nat} {q : Rg} (h : At6 w g o q) (r : Rg) : At6 (set6 w g o r) g o r := by
  obtain ⟨h1, h2, h3, h4, h5, h6⟩ := h
  unfold set6
  refine ⟨?_, ?_, ?_, ?_, ?_, ?_⟩
  · rw [cell_other (by omega), cell_other (by omega), cell_other (by omega), cell_other (by omega), cell_other (by omega)]; exact cell_same h1
  · rw [cell_other (by omega), cell_other (by omega), cell_other (by omega), cell_other (by omega)]; exact cell_same (by rw [cell_other (by omega)]; exact h2)
  · rw [cell_other (by omega), cell_other (by omega), cell_other (by omega)]; exact cell_same (by rw [cell_other (by omega), cell_other (by omega)]; exact h3)
  · rw [cell_other (by omega), cell_other (by omega)]; exact cell_same (by rw [cell_other (by omega), cell_other (by omega), cell_other (by omega)]; exact h4)
  · rw [cell_other (by omega)]; exact cell_same (by rw [cell_other (by omega), cell_other (by omega), cell_other (by omega), cell_other (by omega)]; exact h5)
  · exact cell_same (by rw [cell_other (by omega), cell_other (by omega), cell_other (by omega), cell_other (by omega), cell_other (by omega)]; exact h6)
theorem set6_far {w : World} {g o b o' : Nat} {q : Rg} (h : At6 w b o' q) (r : Rg) (hf : b ≠ g ∨ o' + 6 ≤ o ∨ o + 6 ≤ o') : At6 (set6 w g o r) b o' q := by
  unfold At6
  rw [set6_other _ _ _ _ _ _ (by omega), set6_other _ _ _ _ _ _ (by omega), set6_other _ _ _ _ _ _ (by omega), set6_other _ _ _ _ _ _ (by omega), set6_other _ _ _ _ _ _ (by omega), set6_other _ _ _ _ _ _ (by omega)]
  exact h
theorem set6_size (w : World) (g o : Nat) (r : Rg) : (set6 w g o r).heap.size = w.heap.size := by simp [set6]
theorem set6_blk {w : World} {g : Nat} {cur : Array Value} {t : TypeId} (h : Blk w g cur t) (o : Nat) (r : Rg) : ∃ cur', Blk (set6 w g o r) g cur' t ∧ cur'.size = cur.size :=
  ⟨_, ((((((h.set o _).set (o + 1) _).set (o + 2) _).set (o + 3) _).set (o + 4) _).set (o + 5) _), by simp⟩
theorem set6_below {B : Nat} {a w : World} (h : Below B a w) {g : Nat} (hg : B ≤ g) (o : Nat) (r : Rg) : Below B a (set6 w g o r) :=
  (((((h.setCell (p := ⟨g, o, none⟩) hg _).setCell (p := ⟨g, o + 1, none⟩) hg _).setCell (p := ⟨g, o + 2, none⟩) hg _).setCell (p := ⟨g, o + 3, none⟩) hg _).setCell (p := ⟨g, o + 4, none⟩) hg _).setCell (p := ⟨g, o + 5, none⟩) hg _

/-- A ROW OF REGIONS OF THE CALL's OWN: the whole block g. -/
def RowR (w : World) (g : Nat) (rs : List Rg) : Prop :=
  (∃ cur, Blk w g cur 43 ∧ cur.size = rs.length * 6) ∧ ∀ i, i < rs.length → At6 w g (i * 6) (rs.getD i z6)
theorem RowR.lt {w : World} {g : Nat} {rs : List Rg} (h : RowR w g rs) : g < w.heap.size := by obtain ⟨⟨cur, hb, _⟩, _⟩ := h; exact hb.lt
theorem RowR.below {w w' : World} {g : Nat} {rs : List Rg} (h : RowR w g rs) (hb : Below w.heap.size w w') : RowR w' g rs := by
  obtain ⟨⟨cur, hc, hs⟩, hr⟩ := h
  exact ⟨⟨cur, hc.below hb, hs⟩, fun i hi => (hr i hi).below hb⟩
theorem RowR.frozen {w : World} {g : Nat} {rs : List Rg} (h : RowR w g rs) (i : Nat) : w.frozen? ⟨g, i, none⟩ = false := by obtain ⟨⟨cur, hb, _⟩, _⟩ := h; exact hb.frozen i
theorem RowR.set {w : World} {g : Nat} {rs : List Rg} (h : RowR w g rs) (i : Nat) (hi : i < rs.length) (r : Rg) : RowR (set6 w g (i * 6) r) g (rs.set i r) := by
  obtain ⟨⟨cur, hc, hs⟩, hr⟩ := h
  obtain ⟨cur', hc', hs'⟩ := set6_blk hc (i * 6) r
  refine ⟨⟨cur', hc', by rw [hs', hs, List.length_set]⟩, fun j hj => ?_⟩
  rw [List.length_set] at hj
  by_cases e : i = j
  · subst e
    have : (rs.set i r).getD i z6 = r := by simp [List.getD_eq_getElem?_getD, hi]
    rw [this]
    exact set6_at (hr i hi) r
  · have : (rs.set i r).getD j z6 = rs.getD j z6 := by simp [List.getD_eq_getElem?_getD, e]
    rw [this]
    exact set6_far (hr j hj) r (by omega)
theorem RowR.rs {w : World} {g : Nat} {rs : List Rg} (h : RowR w g rs) (hm : rs.length ≤ maxLen) (hw : ∀ g ∈ rs, wfi g.1 ∧ wfi g.2.1 ∧ wfi g.2.2.1) (n cap : Nat) (hn : rs.length = n) (hc : n ≤ cap := by exact Nat.le_refl _) : RS w (some ⟨g, 0, none⟩) n cap rs := by
  subst hn
  exact ⟨rfl, hm, hw, fun _ => ⟨g, 0, rfl, fun i hi => by rw [Nat.zero_add]; exact h.2 i hi⟩, hc⟩

theorem rowR_of_made {w : World} {base g n : Nat} (h : w.ownsRow base 43 6 (.slice (some ⟨g, 0, none⟩) n n) n (madeCells (Value.cells (.agg #[.int .i64 0, .int .i64 0, .int .i64 0, .bool false, .bool false, .bool false])) (n * 6)).toList) : RowR w g (List.replicate n z6) := by
  obtain ⟨hl, h | ⟨g', cap, cur, hv, hb, hh, h1, h2, h3, h4⟩⟩ := h
  · simp at h
  · simp at hv
    obtain ⟨rfl, rfl⟩ := hv
    have e : cur.toList = (madeCells (Value.cells (.agg #[.int .i64 0, .int .i64 0, .int .i64 0, .bool false, .bool false, .bool false])) (n * 6)).toList := by
      rw [← h4, List.take_of_length_le (by simp [h3])]
    have e2 : cur = madeCells (Value.cells (.agg #[.int .i64 0, .int .i64 0, .int .i64 0, .bool false, .bool false, .bool false])) (n * 6) := Array.toList_inj.1 e
    have hB : Blk w g cur 43 := hh
    refine ⟨⟨cur, hB, by simp [h3]⟩, fun i hi => ?_⟩
    simp at hi
    have hcell : ∀ j, j < 6 → w.cell? ⟨g, i * 6 + j, none⟩ = #[Value.int .i64 0, .int .i64 0, .int .i64 0, .bool false, .bool false, .bool false][j]? := by
      intro j hj
      rw [hB.cell, e2]
      have hm : (i * 6 + j) % 6 = j := by omega
      simp [madeCells, Value.cells, show i * 6 + j < n * 6 by omega, hm]
      match j, hj with
      | 0, _ => rfl
      | 1, _ => rfl
      | 2, _ => rfl
      | 3, _ => rfl
      | 4, _ => rfl
      | 5, _ => rfl
    have hz : (List.replicate n z6).getD i z6 = z6 := by simp [List.getD_eq_getElem?_getD, hi]
    rw [hz]
    exact ⟨hcell 0 (by omega), hcell 1 (by omega), hcell 2 (by omega), hcell 3 (by omega), hcell 4 (by omega), hcell 5 (by omega)⟩

def midR (rs : List Rg) (k : Nat) : List Rg := (List.range rs.length).map (fun i => if i < k then rs.getD i z6 else z6)
theorem midR_len (rs : List Rg) (k : Nat) : (midR rs k).length = rs.length := by simp [midR]
theorem midR_zero (rs : List Rg) : midR rs 0 = List.replicate rs.length z6 := by
  apply List.ext_getElem
  · simp [midR]
  · intro i h1 h2; simp [midR]
theorem midR_all (rs : List Rg) : midR rs rs.length = rs := by
  apply List.ext_getElem
  · simp [midR]
  · intro i h1 h2; simp [midR, h2]
theorem midR_set (rs : List Rg) (k : Nat) (h : k < rs.length) : (midR rs k).set k (rs.getD k z6) = midR rs (k + 1) := by
  apply List.ext_getElem
  · simp [midR]
  · intro i h1 h2
    simp only [midR, List.getElem_set, List.getElem_map, List.getElem_range]
    by_cases hik : k = i
    · subst hik; simp
    · by_cases h3 : i < k
      · simp [hik, h3, show i < k + 1 by omega]
      · simp [hik, h3, show ¬ i < k + 1 by omega]
end Go.Proofs.YtaillnegkfagfacGreat
