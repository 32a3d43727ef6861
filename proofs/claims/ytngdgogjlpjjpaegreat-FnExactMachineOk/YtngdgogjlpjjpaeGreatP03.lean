import Derived.Test.YtngdgogjlpjjpaeGreatP01
import Derived.Test.YtngdgogjlpjjpaeGreatP02
namespace Go.Proofs.YtngdgogjlpjjpaeGreat
open Go.RowKit
set_option linter.unusedVariables false
theorem mod_word (v : Int) : ((v.tmod 4294967296) + 4294967296).tmod 4294967296 = v % 4294967296 := by
  have h := Int.tmod_eq_emod (a := v) (b := 4294967296)
  have hlt : -4294967296 < v.tmod 4294967296 := by
    have := Int.lt_tmod_of_pos v (show (0:Int) < 4294967296 by omega)
    exact this
  rw [Int.tmod_eq_emod_of_nonneg (by omega)]
  split at h <;> omega
set_option maxHeartbeats 400000 in
theorem l1Mod_word (v : Int) (w : World) (hv : -9223372036854775808 ≤ v ∧ v ≤ 9223372036854775807) :
    Calls Tryz.prog 177 #[.int .i64 v, .int .i64 4294967296] w fun e w' => e = .returned (.int .i64 (v % 4294967296)) ∧ w = w' := by
  have hlt : -4294967296 < v.tmod 4294967296 := Int.lt_tmod_of_pos v (by omega)
  have hgt : v.tmod 4294967296 < 4294967296 := Int.tmod_lt_of_pos v (by omega)
  have HM := hide (mod_word v)
  go_enter Tryz.func177, Tryz.ntmps177
  go_wp2
  go_ret
  exact ⟨ret_int (by have := HM.out; rwa [Int.tmod_eq_emod_of_nonneg (by omega)] at this), rfl⟩
set_option maxHeartbeats 400000 in
theorem l1Word_any (v : Int) (w : World) (hv : -9223372036854775808 ≤ v ∧ v ≤ 9223372036854775807) :
    Calls Tryz.prog 84 #[.int .i64 v] w fun e w' => e = .returned (.int .i64 (v % 4294967296)) ∧ w = w' := by
  go_enter Tryz.func84, Tryz.ntmps84
  go_wp2_with fail
  refine (l1Mod_word v _ hv).mono ?_
  rintro e w1 ⟨rfl, rfl⟩
  go_wp2
  go_ret
  exact ⟨rfl, rfl⟩
def bt (v : Int) (j : Nat) : Int := v / (256:Int)^j % 256
def putW (w : World) (g k : Nat) (v : Int) : Nat → World
  | 0 => w
  | j + 1 => (putW w g k v j).setCell ⟨g, k + j, none⟩ (.int .u8 (bt v j))
def put (zs : List Int) (k : Nat) (v : Int) : Nat → List Int
  | 0 => zs
  | j + 1 => (put zs k v j).set (k + j) (bt v j)
theorem bt_range (v : Int) (j : Nat) : 0 ≤ bt v j ∧ bt v j ≤ 255 := by unfold bt; omega
theorem bt_succ (v : Int) (j : Nat) : v / (256:Int)^j / 256 = v / (256:Int)^(j+1) := by
  rw [Int.pow_succ, Int.ediv_ediv_of_nonneg (Int.le_of_lt (Int.pow_pos (by omega)))]
theorem put_len (zs : List Int) (k : Nat) (v : Int) : ∀ j, (put zs k v j).length = zs.length
  | 0 => rfl
  | j + 1 => by rw [put, List.length_set, put_len zs k v j]
def Room (w : World) (g n : Nat) : Prop := ∃ cur, Blk w g cur 5 ∧ n ≤ cur.size
theorem Room.cell {w : World} {g n : Nat} (h : Room w g n) (i : Nat) (hi : i < n) : ∃ u, w.cell? ⟨g, i, none⟩ = some u := by
  obtain ⟨cur, hb, hn⟩ := h
  rw [hb.cell]
  exact ⟨cur[i], by simp⟩
theorem Room.frozen {w : World} {g n : Nat} (h : Room w g n) (i : Nat) : w.frozen? ⟨g, i, none⟩ = false := by
  obtain ⟨cur, hb, hn⟩ := h
  exact hb.frozen i
theorem Room.set {w : World} {g n : Nat} (h : Room w g n) (i : Nat) (u : Value) : Room (w.setCell ⟨g, i, none⟩ u) g n := by
  obtain ⟨cur, hb, hn⟩ := h
  exact ⟨_, hb.set i u, by simpa using hn⟩
theorem Room.put {w : World} {g n : Nat} (h : Room w g n) (k : Nat) (v : Int) : ∀ j, Room (putW w g k v j) g n
  | 0 => h
  | j + 1 => (Room.put h k v j).set (k + j) _
set_option maxHeartbeats 1000000 in
theorem l1Put_any (g n cap k : Nat) (s v : Int) (w : World) (h : Room w g n) (hn : n ≤ 16384) (hs1 : 1 ≤ s) (hs : s ≤ 4) (hk : (k : Int) + s ≤ n) (hv0 : 0 ≤ v) (hv1 : v ≤ 4294967295) :
    Calls Tryz.prog 83 #[.slice (some ⟨g, 0, none⟩) n cap, .int .i64 k, .int .i64 s, .int .i64 v] w fun e w' => e = .returned (.tuple #[]) ∧ w' = putW w g k v s.toNat := by
  go_enter Tryz.func83, Tryz.ntmps83
  go_wp2
  go_loopw [3, 8] (fun x i wr => ∃ j : Nat, (j : Int) ≤ s ∧ i = .int .i64 j ∧ x = .int .i64 (v / (256:Int)^j) ∧ wr = putW w g k v j) (fun _ i _ => s.toNat - (intOf i).toNat)
  case atStart => exact ⟨0, by omega, rfl, by simp, rfl⟩
  case round =>
    obtain ⟨j, hj, rfl, rfl, rfl⟩ := hrel
    by_cases hlt : (j : Int) < s
    · have hR := h.put k v j
      obtain ⟨u, hu⟩ := hR.cell (k + j) (by omega)
      have hf := hR.frozen (k + j)
      have hp : 0 < (256:Int)^j := Int.pow_pos (by omega)
      have hq0 : 0 ≤ v / (256:Int)^j := Int.ediv_nonneg hv0 (by omega)
      have hq1 : v / (256:Int)^j ≤ v := Int.ediv_le_self _ hv0
      have HS := hide (bt_succ v j)
      have hW : putW w g k v (j + 1) = (putW w g k v j).setCell ⟨g, k + j, none⟩ (.int .u8 (v / (256:Int)^j % 256)) := rfl
      have HW := hide hW
      clear hW hR hp
      generalize putW w g k v j = W at *
      generalize v / (256:Int)^j = q at *
      go_wp2
      go_roundw
      case rel => exact ⟨j + 1, by omega, by go_num, by rw [HS.out], HW.out.symm⟩
      case measure => simp [intOf]; omega
    · have hjs : s.toNat = j := by omega
      have HJ := hide hjs
      clear hjs
      generalize v / (256:Int)^j = q at *
      go_wp2
      go_end0
      exact ⟨rfl, by rw [HJ.out]⟩
def putD4 (w : World) (g k : Nat) (v : Int) : World :=
  (((w.setCell ⟨g, k + 3, none⟩ (.int .u8 (bt v 3))).setCell ⟨g, k + 2, none⟩ (.int .u8 (bt v 2))).setCell ⟨g, k + 1, none⟩ (.int .u8 (bt v 1))).setCell ⟨g, k, none⟩ (.int .u8 (bt v 0))
theorem bt0 (v : Int) : bt v 0 = v % 256 := by unfold bt; simp
theorem bt1 (v : Int) : bt v 1 = v / 256 % 256 := by unfold bt; simp
theorem bt2 (v : Int) : bt v 2 = v / 65536 % 256 := by unfold bt; rw [show (256:Int)^2 = 65536 from rfl]
theorem bt3 (v : Int) : bt v 3 = v / 16777216 % 256 := by unfold bt; rw [show (256:Int)^3 = 16777216 from rfl]
set_option maxHeartbeats 1000000 in
theorem putBytes_4 (g n cap k : Nat) (v : Int) (w : World) (h : Room w g (k + 4)) (hn : 4 ≤ n) (hv : -9223372036854775808 ≤ v ∧ v ≤ 9223372036854775807) :
    Calls Tryz.prog 179 #[.slice (some ⟨g, k, none⟩) n cap, .int .i64 4, .int .i64 v] w fun e w' => e = .returned (.tuple #[]) ∧ w' = putD4 w g k v := by
  obtain ⟨u0, c0⟩ := h.cell k (by omega)
  obtain ⟨u1, c1⟩ := h.cell (k + 1) (by omega)
  obtain ⟨u2, c2⟩ := h.cell (k + 2) (by omega)
  obtain ⟨u3, c3⟩ := h.cell (k + 3) (by omega)
  have hf : ∀ i, w.frozen? ⟨g, i, none⟩ = false := h.frozen
  have hl : (3 : Int) < (n : Int) := by omega
  obtain ⟨hv0, hv1⟩ := hv
  have HP := hide (show putD4 w g k v = putD4 w g k v from rfl)
  unfold putD4
  rw [bt3, bt2, bt1, bt0]
  go_enter Tryz.func179, Tryz.ntmps179
  go_wp2
  go_end0
  exact ⟨rfl, rfl⟩
theorem bt_word (v : Int) : bt (v % 4294967296) 0 = bt v 0 ∧ bt (v % 4294967296) 1 = bt v 1 ∧ bt (v % 4294967296) 2 = bt v 2 ∧ bt (v % 4294967296) 3 = bt v 3 := by
  rw [bt0, bt1, bt2, bt3, bt0, bt1, bt2, bt3]
  omega
theorem put_desc4 (zs : List Int) (k : Nat) (v : Int) : put zs k v 4 = (((zs.set (k + 3) (bt v 3)).set (k + 2) (bt v 2)).set (k + 1) (bt v 1)).set k (bt v 0) := by
  simp only [put, Nat.add_zero]
  rw [List.set_comm _ _ (show k ≠ k + 1 by omega), List.set_comm _ _ (show k ≠ k + 2 by omega), List.set_comm _ _ (show k ≠ k + 3 by omega)]
  congr 1
  rw [List.set_comm _ _ (show k + 1 ≠ k + 2 by omega), List.set_comm _ _ (show k + 1 ≠ k + 3 by omega)]
  congr 1
  rw [List.set_comm _ _ (show k + 2 ≠ k + 3 by omega)]
theorem ob_set {w : World} {base g n cap : Nat} {zs : List Int} (h : OB w base (.slice (some ⟨g, 0, none⟩) n cap) zs) (i : Nat) (hi : i < n) (z : Int) (hz : 0 ≤ z ∧ z ≤ 255) : OB (w.setCell ⟨g, i, none⟩ (.int .u8 z)) base (.slice (some ⟨g, 0, none⟩) n cap) (zs.set i z) := by
  obtain ⟨⟨hl, h0 | ⟨g', cap', cur, hv, hg, hh, h1, h2, h3, h4⟩⟩, hr⟩ := h
  · simp at h0
  · simp at hv
    obtain ⟨rfl, rfl, rfl⟩ := hv
    refine ⟨⟨by simp, .inr ⟨g, cap, cur.setIfInBounds i (.int .u8 z), by simp, hg, Blk.set (w := w) hh i _, by simpa using h1, h2, by simpa using h3, ?_⟩⟩, ?_⟩
    · rw [List.length_set, Array.toList_setIfInBounds, List.take_set, h4, List.map_set]
    · intro y hy
      rcases List.mem_or_eq_of_mem_set hy with hy | rfl
      · exact hr y hy
      · exact hz
theorem ob_put {w : World} {base g n cap : Nat} {zs : List Int} (h : OB w base (.slice (some ⟨g, 0, none⟩) n cap) zs) (k : Nat) (v : Int) : ∀ j, k + j ≤ n → OB (putW w g k v j) base (.slice (some ⟨g, 0, none⟩) n cap) (put zs k v j)
  | 0, _ => h
  | j + 1, hj => ob_set (ob_put h k v j (by omega)) (k + j) (by omega) _ (bt_range v j)
theorem ob_putD4 {w : World} {base g n cap : Nat} {zs : List Int} (h : OB w base (.slice (some ⟨g, 0, none⟩) n cap) zs) (k : Nat) (v : Int) (hk : k + 4 ≤ n) : OB (putD4 w g k v) base (.slice (some ⟨g, 0, none⟩) n cap) (put zs k v 4) := by
  rw [put_desc4]
  exact ob_set (ob_set (ob_set (ob_set h (k + 3) (by omega) _ (bt_range v 3)) (k + 2) (by omega) _ (bt_range v 2)) (k + 1) (by omega) _ (bt_range v 1)) k (by omega) _ (bt_range v 0)
theorem ob_room {w : World} {base g n cap : Nat} {zs : List Int} (h : OB w base (.slice (some ⟨g, 0, none⟩) n cap) zs) : Room w g n := by
  obtain ⟨⟨hl, h0 | ⟨g', cap', cur, hv, hg, hh, h1, h2, h3, h4⟩⟩, hr⟩ := h
  · simp at h0
  · simp at hv
    obtain ⟨rfl, rfl, rfl⟩ := hv
    exact ⟨cur, hh, by omega⟩
def Only (g : Nat) (w w' : World) : Prop := w'.heap.size = w.heap.size ∧ (∀ k, k ≠ g → w'.heap[k]? = w.heap[k]?) ∧ w'.os = w.os ∧ w'.tape = w.tape ∧ w'.output = w.output
theorem only_refl (g : Nat) (w : World) : Only g w w := ⟨rfl, fun _ _ => rfl, rfl, rfl, rfl⟩
theorem only_set {g : Nat} {w w' : World} (h : Only g w w') (i : Nat) (u : Value) : Only g w (w'.setCell ⟨g, i, none⟩ u) :=
  ⟨by rw [size_setCell]; exact h.1, fun k hk => by rw [heap_setCell_other _ _ _ _ hk]; exact h.2.1 k hk, h.2.2.1, h.2.2.2.1, h.2.2.2.2⟩
theorem only_put (g k : Nat) (v : Int) (w : World) : ∀ j, Only g w (putW w g k v j)
  | 0 => only_refl g w
  | j + 1 => only_set (only_put g k v w j) (k + j) _
theorem only_putD4 (g k : Nat) (v : Int) (w : World) : Only g w (putD4 w g k v) := only_set (only_set (only_set (only_set (only_refl g w) _ _) _ _) _ _) _ _
theorem only_below {B g : Nat} {a w w' : World} (h : Below B a w) (ho : Only g w w') (hg : B ≤ g) : Below B a w' :=
  ⟨ho.2.2.1.trans h.os, ho.2.2.2.1.trans h.tape, ho.2.2.2.2.trans h.output, by rw [ho.1]; exact h.size, fun k hk => (ho.2.1 k (by omega)).trans (h.block k hk)⟩
theorem only_blk {g k : Nat} {w w' : World} {cs : Array Value} {t : TypeId} (ho : Only g w w') (h : Blk w k cs t) (hk : k ≠ g) : Blk w' k cs t := by
  unfold Blk at *; rw [ho.2.1 k hk]; exact h
theorem only_ob {g base : Nat} {w w' : World} {v : Value} {zs : List Int} (ho : Only g w w') (h : OB w base v zs) (hk : v.ownBlock ≠ some g) : OB w' base v zs := by
  refine ⟨?_, h.2⟩
  obtain ⟨hl, h0 | ⟨g', cap, cur, rfl, hg, hh, h1, h2, h3, h4⟩⟩ := h.1
  · exact ⟨hl, .inl h0⟩
  · refine ⟨hl, .inr ⟨g', cap, cur, rfl, hg, ?_, h1, h2, h3, h4⟩⟩
    exact only_blk ho hh (by intro e; subst e; exact hk rfl)
theorem put_word (zs : List Int) (k : Nat) (v : Int) : put zs k (v % 4294967296) 4 = put zs k v 4 ∧ put zs k (v % 4294967296) 2 = put zs k v 2 ∧ put zs k (v % 4294967296) 1 = put zs k v 1 := by
  obtain ⟨e0, e1, e2, e3⟩ := bt_word v
  simp only [put, e0, e1, e2, e3, and_self]
theorem turn_ob {S : Nat → Prop} {base : Nat} {w w' : World} {v : Value} {zs : List Int} (ht : Turn S w w') (h : OB w base v zs) (hk : ∀ k, v.ownBlock = some k → ¬ S k) : OB w' base v zs := by
  refine ⟨?_, h.2⟩
  obtain ⟨hl, h0 | ⟨g', cap, cur, rfl, hg, hh, h1, h2, h3, h4⟩⟩ := h.1
  · exact ⟨hl, .inl h0⟩
  · exact ⟨hl, .inr ⟨g', cap, cur, rfl, hg, turn_blk ht hh (hk g' rfl), h1, h2, h3, h4⟩⟩
end Go.Proofs.YtngdgogjlpjjpaeGreat
namespace Go.Proofs.YtngdgogjlpjjpaeGreat
open Go.RowKit
set_option linter.unusedVariables false
set_option linter.unusedSimpArgs false
set_option maxRecDepth 100000
set_option maxHeartbeats 2000000 in
theorem relocsOk_any (nm : ByteArray) (v1 v2 : Value) (da : Option Addr) (dn dc : Nat) (bss : Int) (ra : Option Addr) (rn rc : Nat) (rz : List Int) (v6 v7 : Value) (w : World) (hd : dn ≤ maxLen) (h : IS w ra rn rc rz) :
    Calls Tryz.prog 266 #[.agg #[.string nm, v1, v2, .slice da dn dc, .int .i64 bss, .slice ra rn rc, v6, v7]] w fun e w' => e = .returned (.bool (rlo rn rz dn)) ∧ Below w.heap.size w w' := by
  obtain ⟨W, hW⟩ : ∃ W, W = w.alloc (.cells #[.string nm, v1, v2, .slice da dn dc, .int .i64 bss, .slice ra rn rc, v6, v7] 104) := ⟨_, rfl⟩
  have hB0 : Below w.heap.size w W := by rw [hW]; exact (Below.refl _ _).alloc (Nat.le_refl _) _
  have kb : Blk W w.heap.size #[.string nm, v1, v2, .slice da dn dc, .int .i64 bss, .slice ra rn rc, v6, v7] 104 := by rw [hW]; exact Blk.new _ _ _
  obtain ⟨q0, q1, q2, q3, q4, q5, q6, q7⟩ := kb.eight
  obtain ⟨r, hr⟩ : ∃ r, r = rlo rn rz dn := ⟨_, rfl⟩
  rw [← hr]
  unfold rlo at hr
  have h0 := h.below hB0
  have hm1 := h.2.1
  unfold maxLen at hm1 hd
  have HW := hide hW
  clear hW
  by_cases c1 : 16 < rn
  · have HR := hide (show r = false by rw [hr, decide_eq_false (by omega)]; rfl)
    clear hr
    have c1' : (16 : Int) < (rn : Int) := by omega
    go_enter Tryz.func266, Tryz.ntmps266
    go_wp2_with (rw [← HW.out])
    go_ret
    exact ⟨ret_bool HR.out.symm, hB0⟩
  · have c1' : ¬ (16 : Int) < (rn : Int) := by omega
    have HR := hide (show r = (List.range rn).all (rlk rz dn) by rw [hr, decide_eq_true (by omega)]; rfl)
    clear hr
    go_enter Tryz.func266, Tryz.ntmps266
    go_wp2_with (rw [← HW.out])
    go_loop [12] (fun i => ∃ k : Nat, k ≤ rn ∧ i = .int .i64 k ∧ Hid (∀ j, j < k → rlk rz dn j = true)) (fun i => rn - (intOf i).toNat)
    case atStart => exact ⟨0, Nat.zero_le _, rfl, hide (fun j hj => by omega)⟩
    case round =>
      obtain ⟨k, hk, rfl, HJ⟩ := hrel
      by_cases hlt : k < rn
      · have hlt' : (k : Int) < (rn : Int) := by omega
        obtain ⟨bb, off, rfl⟩ := h0.addr (by omega)
        have hck := h0.at k hlt
        have HZ := hide (rng_bad (rlk rz dn) rn k hlt)
        have HG := hide (show rlk rz dn k = true → ∀ j, j < k + 1 → rlk rz dn j = true from fun h j hj => by
          by_cases e : j = k
          · subst e; exact h
          · exact HJ.out j (by omega))
        have HK := hide (show ∀ b : Bool, (b = true ↔ (0 ≤ rz.getD k 0 ∧ rz.getD k 0 % 4 = 0 ∧ rz.getD k 0 ≤ (dn : Int) - 4 ∧ (k = 0 ∨ rz.getD (k - 1) 0 < rz.getD k 0))) → rlk rz dn k = b from fun b hb => by unfold rlk; rw [Bool.eq_iff_iff, hb]; simp)
        have hrg := h0.range k
        unfold wfi at hrg
        obtain ⟨g0, g1⟩ := hrg
        have ht4 := tmod4 (rz.getD k 0)
        have HU := hide (fun w => isUpTo_any (rz.getD k 0) ((dn : Int) - 4) w)
        by_cases k0 : k = 0
        · subst k0
          simp only [Nat.add_zero] at hck
          generalize rz.getD 0 0 = z at *
          by_cases d2 : z % 4 ≠ 0
          · rw [decide_eq_true d2] at ht4
            go_wp2
            go_ret
            exact ⟨ret_bool (by rw [HR.out]; exact (HZ.out (HK.out false (by simp; omega))).symm), hB0⟩
          · rw [decide_eq_false d2] at ht4
            by_cases d3 : 0 ≤ z ∧ z ≤ (dn : Int) - 4
            · rw [decide_eq_true d3] at HU
              go_wp2_with (go_at_call 165; refine (HU.out _).mono ?_; rintro e w1 ⟨rfl, rfl⟩)
              go_round
              case rel => exact ⟨1, by omega, by go_num, hide (HG.out (HK.out true (by simp; omega)))⟩
              case measure => simp [intOf]; omega
            · rw [decide_eq_false d3] at HU
              go_wp2_with (go_at_call 165; refine (HU.out _).mono ?_; rintro e w1 ⟨rfl, rfl⟩)
              go_ret
              exact ⟨ret_bool (by rw [HR.out]; exact (HZ.out (HK.out false (by simp; omega))).symm), hB0⟩
        · have hpk := h0.at (k - 1) (by omega)
          have hk0 : (0 : Int) < (k : Int) := by omega
          have hk1 : (0 : Int) ≤ (k : Int) - 1 := by omega
          have hk2 : (k : Int) - 1 < (rn : Int) := by omega
          generalize rz.getD (k - 1) 0 = y at *
          generalize rz.getD k 0 = z at *
          by_cases d2 : z % 4 ≠ 0
          · rw [decide_eq_true d2] at ht4
            go_wp2
            go_ret
            exact ⟨ret_bool (by rw [HR.out]; exact (HZ.out (HK.out false (by simp; omega))).symm), hB0⟩
          · rw [decide_eq_false d2] at ht4
            by_cases d3 : 0 ≤ z ∧ z ≤ (dn : Int) - 4
            · rw [decide_eq_true d3] at HU
              by_cases d4 : z ≤ y
              · go_wp2_with (go_at_call 165; refine (HU.out _).mono ?_; rintro e w1 ⟨rfl, rfl⟩)
                go_ret
                exact ⟨ret_bool (by rw [HR.out]; exact (HZ.out (HK.out false (by simp; omega))).symm), hB0⟩
              · go_wp2_with (go_at_call 165; refine (HU.out _).mono ?_; rintro e w1 ⟨rfl, rfl⟩)
                go_round
                case rel => exact ⟨k + 1, by omega, by go_num, hide (HG.out (HK.out true (by simp; omega)))⟩
                case measure => simp [intOf]; omega
            · rw [decide_eq_false d3] at HU
              go_wp2_with (go_at_call 165; refine (HU.out _).mono ?_; rintro e w1 ⟨rfl, rfl⟩)
              go_ret
              exact ⟨ret_bool (by rw [HR.out]; exact (HZ.out (HK.out false (by simp; omega))).symm), hB0⟩
      · have HE := hide (rng_good (rlk rz dn) rn (fun j hj => HJ.out j (by omega)))
        go_wp2
        go_ret
        exact ⟨ret_bool (by rw [HR.out]; exact HE.out.symm), hB0⟩
def upS (f : Nat → Nat) : Nat → Nat
  | 0 => 0
  | k + 1 => upS f k + f k
theorem upS_mono (f : Nat → Nat) (k : Nat) : ∀ m, k ≤ m → upS f k ≤ upS f m
  | 0, h => by obtain rfl : k = 0 := by omega
               exact Nat.le_refl _
  | m + 1, h => by
    by_cases e : k = m + 1
    · subst e; exact Nat.le_refl _
    · have := upS_mono f k m (by omega)
      show _ ≤ upS f m + f m
      omega
def szR (l : Int) (t : Nat) : Int := if l < (t : Int) then -1 else l - t
set_option maxHeartbeats 1000000 in
theorem szIntSS_any (a : Option Addr) (n cap : Nat) (bl : List Bk) (l : Int) (w : World) (h : BKS w a n cap bl) (l0 : 0 ≤ l) (l1 : l ≤ 1048576) :
    Calls Tryz.prog 126 #[.slice a n cap, .int .i64 l] w fun e w' => e = .returned (.int .i64 (szR l (n + upS (fun j => (bl.getD j zB).2.1) n))) ∧ w = w' := by
  have hm := h.2.1
  unfold maxLen at hm
  obtain ⟨r, hr⟩ : ∃ r, r = szR l (n + upS (fun j => (bl.getD j zB).2.1) n) := ⟨_, rfl⟩
  rw [← hr]
  unfold szR at hr
  have HR := hide hr
  clear hr
  by_cases c1 : l < (n : Int)
  · have e := hide (show r = -1 from by rw [HR.out, if_pos (by omega)])
    go_enter Tryz.func126, Tryz.ntmps126
    go_wp2
    go_ret
    exact ⟨ret_int e.out.symm, rfl⟩
  · go_enter Tryz.func126, Tryz.ntmps126
    go_wp2_with fail
    go_loop [1, 5] (fun v i => ∃ (k : Nat) (z : Int), k ≤ n ∧ i = .int .i64 k ∧ v = .int .i64 z ∧ 0 ≤ z ∧ z ≤ 1048576 ∧ Hid (z = l - n - (upS (fun j => (bl.getD j zB).2.1) k : Nat))) (fun _ i => n - (intOf i).toNat)
    case atStart => exact ⟨0, l - n, Nat.zero_le _, rfl, rfl, by omega, by omega, hide (by simp [upS])⟩
    case round =>
      obtain ⟨k, z, hk, rfl, rfl, z0, z1, HZ⟩ := hrel
      by_cases hlt : k < n
      · have hlt' : (k : Int) < (n : Int) := by omega
        obtain ⟨b, off, rfl⟩ := h.addr (by omega)
        have hck := h.at k hlt
        have hik := h.2.2.2.1 k hlt
        have hmx := hik.2.1
        have HS := hide (fun w => szIntS_any (bl.getD k zB).1 (bl.getD k zB).2.1 (bl.getD k zB).2.2.1 z w z0 z1 hmx)
        have HU := hide (show upS (fun j => (bl.getD j zB).2.1) (k + 1) = upS (fun j => (bl.getD j zB).2.1) k + (bl.getD k zB).2.1 from rfl)
        have HM := hide (upS_mono (fun j => (bl.getD j zB).2.1) (k + 1) n (by omega))
        clear hik
        generalize (bl.getD k zB).1 = xa at *
        generalize hxn : (bl.getD k zB).2.1 = xn at *
        generalize (bl.getD k zB).2.2.1 = xc at *
        by_cases c2 : z < (xn : Int)
        · rw [if_pos c2] at HS
          have e := hide (show r = -1 from by
            have h1 := HZ.out; have h2 := HU.out; have h3 := HM.out
            rw [HR.out, if_pos (by omega)])
          go_wp2_with (go_at_call 48; refine (HS.out _).mono ?_; rintro e w1 ⟨rfl, rfl⟩)
          go_ret
          exact ⟨ret_int e.out.symm, rfl⟩
        · rw [if_neg c2] at HS
          have hz2 : ¬ z - (xn : Int) < 0 := by omega
          go_wp2_with (go_at_call 48; refine (HS.out _).mono ?_; rintro e w1 ⟨rfl, rfl⟩)
          go_round
          case rel => exact ⟨k + 1, z - xn, by omega, by go_num, rfl, by omega, by omega, hide (by have h1 := HZ.out; have h2 := HU.out; omega)⟩
          case measure => simp [intOf]; omega
      · have e := hide (show r = z from by
          have h1 := HZ.out
          have hkn : k = n := by omega
          rw [hkn] at h1
          rw [HR.out, if_neg (by omega)]
          omega)
        go_wp2
        go_ret
        exact ⟨ret_int e.out.symm, rfl⟩
def TS (w : World) (a : Option Addr) (n cap : Nat) (ss : List ByteArray) : Prop :=
  ss.length = n ∧ n ≤ maxLen ∧ (∀ i, (ss.getD i zS).size ≤ maxLen) ∧ (n ≠ 0 → ∃ b off, a = some ⟨b, off, none⟩ ∧ ∀ i, i < n → w.cell? ⟨b, off + i, none⟩ = some (.string (ss.getD i zS))) ∧ n ≤ cap
theorem TS.below {w w' : World} {a : Option Addr} {n cap : Nat} {ss : List ByteArray} (h : TS w a n cap ss) (hb : Below w.heap.size w w') : TS w' a n cap ss := by
  obtain ⟨h1, h2, h3, h4, h5⟩ := h
  refine ⟨h1, h2, h3, fun hn => ?_, h5⟩
  obtain ⟨b, off, e, hc⟩ := h4 hn
  exact ⟨b, off, e, fun i hi => (hb.cell (World.block_lt_of_cell? w _ (hc i hi))).trans (hc i hi)⟩
theorem TS.at {w : World} {a : Option Addr} {n cap : Nat} {ss : List ByteArray} (h : TS w a n cap ss) (i : Nat) (hi : i < n) : ∃ b off, a = some ⟨b, off, none⟩ ∧ w.cell? ⟨b, off + i, none⟩ = some (.string (ss.getD i zS)) := by
  obtain ⟨b, off, e, hc⟩ := h.2.2.2.1 (by omega)
  exact ⟨b, off, e, hc i hi⟩
theorem TS.ss {w : World} {a : Option Addr} {n cap : Nat} {ss : List ByteArray} (h : TS w a n cap ss) (hs : upS (fun j => (ss.getD j zS).size) n ≤ 1048576) : SS w a n cap ss := by
  refine ⟨h.1, h.2.1, fun s hm => ?_, h.2.2.2.1, h.2.2.2.2⟩
  obtain ⟨i, hi, rfl⟩ := List.getElem_of_mem hm
  have h1 := upS_mono (fun j => (ss.getD j zS).size) (i + 1) n (by have := h.1; omega)
  have h2 : upS (fun j => (ss.getD j zS).size) (i + 1) = upS (fun j => (ss.getD j zS).size) i + (ss.getD i zS).size := rfl
  have h3 : (ss.getD i zS).size = ss[i].size := by simp [List.getD_eq_getElem?_getD, hi]
  omega
set_option maxHeartbeats 1000000 in
theorem szStringS_any (a : Option Addr) (n cap : Nat) (ss : List ByteArray) (l : Int) (w : World) (h : TS w a n cap ss) (l0 : 0 ≤ l) (l1 : l ≤ 1048576) :
    Calls Tryz.prog 127 #[.slice a n cap, .int .i64 l] w fun e w' => e = .returned (.int .i64 (szR l (n + upS (fun j => (ss.getD j zS).size) n))) ∧ w = w' := by
  have hm := h.2.1
  unfold maxLen at hm
  obtain ⟨r, hr⟩ : ∃ r, r = szR l (n + upS (fun j => (ss.getD j zS).size) n) := ⟨_, rfl⟩
  rw [← hr]
  unfold szR at hr
  have HR := hide hr
  clear hr
  by_cases c1 : l < (n : Int)
  · have e := hide (show r = -1 from by rw [HR.out, if_pos (by omega)])
    go_enter Tryz.func127, Tryz.ntmps127
    go_wp2
    go_ret
    exact ⟨ret_int e.out.symm, rfl⟩
  · go_enter Tryz.func127, Tryz.ntmps127
    go_wp2_with fail
    go_loop [1, 5] (fun v i => ∃ (k : Nat) (z : Int), k ≤ n ∧ i = .int .i64 k ∧ v = .int .i64 z ∧ 0 ≤ z ∧ z ≤ 1048576 ∧ Hid (z = l - n - (upS (fun j => (ss.getD j zS).size) k : Nat))) (fun _ i => n - (intOf i).toNat)
    case atStart => exact ⟨0, l - n, Nat.zero_le _, rfl, rfl, by omega, by omega, hide (by simp [upS])⟩
    case round =>
      obtain ⟨k, z, hk, rfl, rfl, z0, z1, HZ⟩ := hrel
      by_cases hlt : k < n
      · have hlt' : (k : Int) < (n : Int) := by omega
        obtain ⟨b, off, rfl, hck⟩ := h.at k hlt
        have hmx := h.2.2.1 k
        unfold maxLen at hmx
        have HU := hide (show upS (fun j => (ss.getD j zS).size) (k + 1) = upS (fun j => (ss.getD j zS).size) k + (ss.getD k zS).size from rfl)
        have HM := hide (upS_mono (fun j => (ss.getD j zS).size) (k + 1) n (by omega))
        generalize ss.getD k zS = s at *
        by_cases c2 : z < (s.size : Int)
        · have c2' : z - (s.size : Int) < 0 := by omega
          have e := hide (show r = -1 from by
            have h1 := HZ.out; have h2 := HU.out; have h3 := HM.out
            rw [HR.out, if_pos (by omega)])
          go_wp2
          go_ret
          exact ⟨ret_int e.out.symm, rfl⟩
        · have c2' : ¬ z - (s.size : Int) < 0 := by omega
          go_wp2
          go_round
          case rel => exact ⟨k + 1, z - s.size, by omega, by go_num, rfl, by omega, by omega, hide (by have h1 := HZ.out; have h2 := HU.out; omega)⟩
          case measure => simp [intOf]; omega
      · have e := hide (show r = z from by
          have h1 := HZ.out
          have hkn : k = n := by omega
          rw [hkn] at h1
          rw [HR.out, if_neg (by omega)]
          omega)
        go_wp2
        go_ret
        exact ⟨ret_int e.out.symm, rfl⟩
end Go.Proofs.YtngdgogjlpjjpaeGreat
