import Derived.Test.YtngdgogjlpjjpacK13
namespace Go.Proofs.Ytngdgogjlpjjpac
open Go.RowKit
set_option linter.unusedVariables false

theorem mod_word (v : Int) : ((v.tmod 4294967296) + 4294967296).tmod 4294967296 = v % 4294967296 := by
  have h := Int.tmod_eq_emod (a := v) (b := 4294967296)
  have hlt : -4294967296 < v.tmod 4294967296 := by
    have := Int.lt_tmod_of_pos v (show (0:Int) < 4294967296 by omega)
    exact this
  rw [Int.tmod_eq_emod_of_nonneg (by omega)]
  split at h <;> omega

set_option maxHeartbeats 400000 in
theorem l1Mod_word (v : Int) (w : World) (hv : -9223372036854775808 ≤ v ∧ v ≤ 9223372036854775807) :
    Calls Try.prog 107 #[.int .i64 v, .int .i64 4294967296] w fun e w' => e = .returned (.int .i64 (v % 4294967296)) ∧ w = w' := by
  have hlt : -4294967296 < v.tmod 4294967296 := Int.lt_tmod_of_pos v (by omega)
  have hgt : v.tmod 4294967296 < 4294967296 := Int.tmod_lt_of_pos v (by omega)
  have HM := hide (mod_word v)
  go_enter Try.func107, Try.ntmps107
  go_wp2
  go_ret
  exact ⟨ret_int (by have := HM.out; rwa [Int.tmod_eq_emod_of_nonneg (by omega)] at this), rfl⟩

set_option maxHeartbeats 400000 in
theorem l1Word_any (v : Int) (w : World) (hv : -9223372036854775808 ≤ v ∧ v ≤ 9223372036854775807) :
    Calls Try.prog 44 #[.int .i64 v] w fun e w' => e = .returned (.int .i64 (v % 4294967296)) ∧ w = w' := by
  go_enter Try.func44, Try.ntmps44
  go_wp2_with fail
  refine (l1Mod_word v _ hv).mono ?_
  rintro e w1 ⟨rfl, rfl⟩
  go_wp2
  go_ret
  exact ⟨rfl, rfl⟩

/-- BYTE j OF A NUMBER. -/
def bt (v : Int) (j : Nat) : Int := v / (256:Int)^j % 256
/-- THE WORLD WITH THE FIRST j BYTES OF v AT k. -/
def putW (w : World) (g k : Nat) (v : Int) : Nat → World
  | 0 => w
  | j + 1 => (putW w g k v j).setCell ⟨g, k + j, none⟩ (.int .u8 (bt v j))
def put (zs : List Int) (k : Nat) (v : Int) : Nat → List Int
  | 0 => zs
  | j + 1 => (put zs k v j).set (k + j) (bt v j)

theorem bt_range (v : Int) (j : Nat) : 0 ≤ bt v j ∧ bt v j ≤ 255 := by unfold bt; omega
theorem bt_succ (v : Int) (j : Nat) : v / (256:Int)^j / 256 = v / (256:Int)^(j+1) := by
  rw [Int.pow_succ, Int.ediv_ediv_of_nonneg (Int.le_of_lt (Int.pow_pos (by omega)))]
theorem put_len (zs : List Int) (k : Nat) (v : Int) : ∀ j, (put zs k v j).length = zs.length
  | 0 => rfl
  | j + 1 => by rw [put, List.length_set, put_len zs k v j]

/-- CELLS OF A BLOCK ALL OF WHICH ARE THERE AND ARE NOT FROZEN. -/
def Room (w : World) (g n : Nat) : Prop := ∃ cur, Blk w g cur 5 ∧ n ≤ cur.size
theorem Room.cell {w : World} {g n : Nat} (h : Room w g n) (i : Nat) (hi : i < n) : ∃ u, w.cell? ⟨g, i, none⟩ = some u := by
  obtain ⟨cur, hb, hn⟩ := h
  rw [hb.cell]
  exact ⟨cur[i], by simp⟩
theorem Room.frozen {w : World} {g n : Nat} (h : Room w g n) (i : Nat) : w.frozen? ⟨g, i, none⟩ = false := by
  obtain ⟨cur, hb, hn⟩ := h
  exact hb.frozen i
theorem Room.set {w : World} {g n : Nat} (h : Room w g n) (i : Nat) (u : Value) : Room (w.setCell ⟨g, i, none⟩ u) g n := by
  obtain ⟨cur, hb, hn⟩ := h
  exact ⟨_, hb.set i u, by simpa using hn⟩
theorem Room.put {w : World} {g n : Nat} (h : Room w g n) (k : Nat) (v : Int) : ∀ j, Room (putW w g k v j) g n
  | 0 => h
  | j + 1 => (Room.put h k v j).set (k + j) _

set_option maxHeartbeats 1000000 in
theorem l1Put_any (g n cap k : Nat) (s v : Int) (w : World) (h : Room w g n) (hn : n ≤ 16384) (hs1 : 1 ≤ s) (hs : s ≤ 4) (hk : (k : Int) + s ≤ n) (hv0 : 0 ≤ v) (hv1 : v ≤ 4294967295) :
    Calls Try.prog 46 #[.slice (some ⟨g, 0, none⟩) n cap, .int .i64 k, .int .i64 s, .int .i64 v] w fun e w' => e = .returned (.tuple #[]) ∧ w' = putW w g k v s.toNat := by
  go_enter Try.func46, Try.ntmps46
  go_wp2
  go_loopw [3, 8] (fun x i wr => ∃ j : Nat, (j : Int) ≤ s ∧ i = .int .i64 j ∧ x = .int .i64 (v / (256:Int)^j) ∧ wr = putW w g k v j) (fun _ i _ => s.toNat - (intOf i).toNat)
  case atStart => exact ⟨0, by omega, rfl, by simp, rfl⟩
  case round =>
    obtain ⟨j, hj, rfl, rfl, rfl⟩ := hrel
    by_cases hlt : (j : Int) < s
    · have hR := h.put k v j
      obtain ⟨u, hu⟩ := hR.cell (k + j) (by omega)
      have hf := hR.frozen (k + j)
      have hp : 0 < (256:Int)^j := Int.pow_pos (by omega)
      have hq0 : 0 ≤ v / (256:Int)^j := Int.ediv_nonneg hv0 (by omega)
      have hq1 : v / (256:Int)^j ≤ v := Int.ediv_le_self _ hv0
      have HS := hide (bt_succ v j)
      have hW : putW w g k v (j + 1) = (putW w g k v j).setCell ⟨g, k + j, none⟩ (.int .u8 (v / (256:Int)^j % 256)) := rfl
      have HW := hide hW
      clear hW hR hp
      generalize putW w g k v j = W at *
      generalize v / (256:Int)^j = q at *
      go_wp2
      go_roundw
      case rel => exact ⟨j + 1, by omega, by go_num, by rw [HS.out], HW.out.symm⟩
      case measure => simp [intOf]; omega
    · have hjs : s.toNat = j := by omega
      have HJ := hide hjs
      clear hjs
      generalize v / (256:Int)^j = q at *
      go_wp2
      go_end0
      exact ⟨rfl, by rw [HJ.out]⟩

/-- the bytes as the program writes them: the highest first -/
def putD4 (w : World) (g k : Nat) (v : Int) : World :=
  (((w.setCell ⟨g, k + 3, none⟩ (.int .u8 (bt v 3))).setCell ⟨g, k + 2, none⟩ (.int .u8 (bt v 2))).setCell ⟨g, k + 1, none⟩ (.int .u8 (bt v 1))).setCell ⟨g, k, none⟩ (.int .u8 (bt v 0))
def putD2 (w : World) (g k : Nat) (v : Int) : World := (w.setCell ⟨g, k + 1, none⟩ (.int .u8 (bt v 1))).setCell ⟨g, k, none⟩ (.int .u8 (bt v 0))
def putD1 (w : World) (g k : Nat) (v : Int) : World := w.setCell ⟨g, k, none⟩ (.int .u8 (bt v 0))

theorem bt0 (v : Int) : bt v 0 = v % 256 := by unfold bt; simp
theorem bt1 (v : Int) : bt v 1 = v / 256 % 256 := by unfold bt; simp
theorem bt2 (v : Int) : bt v 2 = v / 65536 % 256 := by unfold bt; rw [show (256:Int)^2 = 65536 from rfl]
theorem bt3 (v : Int) : bt v 3 = v / 16777216 % 256 := by unfold bt; rw [show (256:Int)^3 = 16777216 from rfl]

set_option maxHeartbeats 1000000 in
theorem putBytes_4 (g n cap k : Nat) (v : Int) (w : World) (h : Room w g (k + 4)) (hn : 4 ≤ n) (hv : -9223372036854775808 ≤ v ∧ v ≤ 9223372036854775807) :
    Calls Try.prog 111 #[.slice (some ⟨g, k, none⟩) n cap, .int .i64 4, .int .i64 v] w fun e w' => e = .returned (.tuple #[]) ∧ w' = putD4 w g k v := by
  obtain ⟨u0, c0⟩ := h.cell k (by omega)
  obtain ⟨u1, c1⟩ := h.cell (k + 1) (by omega)
  obtain ⟨u2, c2⟩ := h.cell (k + 2) (by omega)
  obtain ⟨u3, c3⟩ := h.cell (k + 3) (by omega)
  have hf : ∀ i, w.frozen? ⟨g, i, none⟩ = false := h.frozen
  have hl : (3 : Int) < (n : Int) := by omega
  obtain ⟨hv0, hv1⟩ := hv
  have HP := hide (show putD4 w g k v = putD4 w g k v from rfl)
  unfold putD4
  rw [bt3, bt2, bt1, bt0]
  go_enter Try.func111, Try.ntmps111
  go_wp2
  go_end0
  exact ⟨rfl, rfl⟩

set_option maxHeartbeats 1000000 in
theorem putBytes_2 (g n cap k : Nat) (v : Int) (w : World) (h : Room w g (k + 2)) (hn : 2 ≤ n) (hv : -9223372036854775808 ≤ v ∧ v ≤ 9223372036854775807) :
    Calls Try.prog 111 #[.slice (some ⟨g, k, none⟩) n cap, .int .i64 2, .int .i64 v] w fun e w' => e = .returned (.tuple #[]) ∧ w' = putD2 w g k v := by
  obtain ⟨u0, c0⟩ := h.cell k (by omega)
  obtain ⟨u1, c1⟩ := h.cell (k + 1) (by omega)
  have hf : ∀ i, w.frozen? ⟨g, i, none⟩ = false := h.frozen
  have hl : (1 : Int) < (n : Int) := by omega
  obtain ⟨hv0, hv1⟩ := hv
  have HP := hide (show putD2 w g k v = putD2 w g k v from rfl)
  unfold putD2
  rw [bt1, bt0]
  go_enter Try.func111, Try.ntmps111
  go_wp2
  go_end0
  exact ⟨rfl, rfl⟩

set_option maxHeartbeats 1000000 in
theorem putBytes_1 (g n cap k : Nat) (v : Int) (w : World) (h : Room w g (k + 1)) (hn : 1 ≤ n) (hv : -9223372036854775808 ≤ v ∧ v ≤ 9223372036854775807) :
    Calls Try.prog 111 #[.slice (some ⟨g, k, none⟩) n cap, .int .i64 1, .int .i64 v] w fun e w' => e = .returned (.tuple #[]) ∧ w' = putD1 w g k v := by
  obtain ⟨u0, c0⟩ := h.cell k (by omega)
  have hf : ∀ i, w.frozen? ⟨g, i, none⟩ = false := h.frozen
  have hl : (0 : Int) < (n : Int) := by omega
  obtain ⟨hv0, hv1⟩ := hv
  have HP := hide (show putD1 w g k v = putD1 w g k v from rfl)
  unfold putD1
  rw [bt0]
  go_enter Try.func111, Try.ntmps111
  go_wp2
  go_end0
  exact ⟨rfl, rfl⟩

theorem bt_word (v : Int) : bt (v % 4294967296) 0 = bt v 0 ∧ bt (v % 4294967296) 1 = bt v 1 ∧ bt (v % 4294967296) 2 = bt v 2 ∧ bt (v % 4294967296) 3 = bt v 3 := by
  rw [bt0, bt1, bt2, bt3, bt0, bt1, bt2, bt3]
  omega

theorem put_desc4 (zs : List Int) (k : Nat) (v : Int) : put zs k v 4 = (((zs.set (k + 3) (bt v 3)).set (k + 2) (bt v 2)).set (k + 1) (bt v 1)).set k (bt v 0) := by
  simp only [put, Nat.add_zero]
  rw [List.set_comm _ _ (show k ≠ k + 1 by omega), List.set_comm _ _ (show k ≠ k + 2 by omega), List.set_comm _ _ (show k ≠ k + 3 by omega)]
  congr 1
  rw [List.set_comm _ _ (show k + 1 ≠ k + 2 by omega), List.set_comm _ _ (show k + 1 ≠ k + 3 by omega)]
  congr 1
  rw [List.set_comm _ _ (show k + 2 ≠ k + 3 by omega)]
theorem put_desc2 (zs : List Int) (k : Nat) (v : Int) : put zs k v 2 = (zs.set (k + 1) (bt v 1)).set k (bt v 0) := by
  simp only [put, Nat.add_zero]
  rw [List.set_comm _ _ (show k ≠ k + 1 by omega)]

/-- a byte is set in a slice of the call's own -/
theorem ob_set {w : World} {base g n cap : Nat} {zs : List Int} (h : OB w base (.slice (some ⟨g, 0, none⟩) n cap) zs) (i : Nat) (hi : i < n) (z : Int) (hz : 0 ≤ z ∧ z ≤ 255) : OB (w.setCell ⟨g, i, none⟩ (.int .u8 z)) base (.slice (some ⟨g, 0, none⟩) n cap) (zs.set i z) := by
  obtain ⟨⟨hl, h0 | ⟨g', cap', cur, hv, hg, hh, h1, h2, h3, h4⟩⟩, hr⟩ := h
  · simp at h0
  · simp at hv
    obtain ⟨rfl, rfl, rfl⟩ := hv
    refine ⟨⟨by simp, .inr ⟨g, cap, cur.setIfInBounds i (.int .u8 z), by simp, hg, Blk.set (w := w) hh i _, by simpa using h1, h2, by simpa using h3, ?_⟩⟩, ?_⟩
    · rw [List.length_set, Array.toList_setIfInBounds, List.take_set, h4, List.map_set]
    · intro y hy
      rcases List.mem_or_eq_of_mem_set hy with hy | rfl
      · exact hr y hy
      · exact hz
theorem ob_put {w : World} {base g n cap : Nat} {zs : List Int} (h : OB w base (.slice (some ⟨g, 0, none⟩) n cap) zs) (k : Nat) (v : Int) : ∀ j, k + j ≤ n → OB (putW w g k v j) base (.slice (some ⟨g, 0, none⟩) n cap) (put zs k v j)
  | 0, _ => h
  | j + 1, hj => ob_set (ob_put h k v j (by omega)) (k + j) (by omega) _ (bt_range v j)
theorem ob_putD4 {w : World} {base g n cap : Nat} {zs : List Int} (h : OB w base (.slice (some ⟨g, 0, none⟩) n cap) zs) (k : Nat) (v : Int) (hk : k + 4 ≤ n) : OB (putD4 w g k v) base (.slice (some ⟨g, 0, none⟩) n cap) (put zs k v 4) := by
  rw [put_desc4]
  exact ob_set (ob_set (ob_set (ob_set h (k + 3) (by omega) _ (bt_range v 3)) (k + 2) (by omega) _ (bt_range v 2)) (k + 1) (by omega) _ (bt_range v 1)) k (by omega) _ (bt_range v 0)
theorem ob_putD2 {w : World} {base g n cap : Nat} {zs : List Int} (h : OB w base (.slice (some ⟨g, 0, none⟩) n cap) zs) (k : Nat) (v : Int) (hk : k + 2 ≤ n) : OB (putD2 w g k v) base (.slice (some ⟨g, 0, none⟩) n cap) (put zs k v 2) := by
  rw [put_desc2]
  exact ob_set (ob_set h (k + 1) (by omega) _ (bt_range v 1)) k (by omega) _ (bt_range v 0)
theorem ob_putD1 {w : World} {base g n cap : Nat} {zs : List Int} (h : OB w base (.slice (some ⟨g, 0, none⟩) n cap) zs) (k : Nat) (v : Int) (hk : k + 1 ≤ n) : OB (putD1 w g k v) base (.slice (some ⟨g, 0, none⟩) n cap) (put zs k v 1) :=
  ob_set h k (by omega) _ (bt_range v 0)
theorem ob_room {w : World} {base g n cap : Nat} {zs : List Int} (h : OB w base (.slice (some ⟨g, 0, none⟩) n cap) zs) : Room w g n := by
  obtain ⟨⟨hl, h0 | ⟨g', cap', cur, hv, hg, hh, h1, h2, h3, h4⟩⟩, hr⟩ := h
  · simp at h0
  · simp at hv
    obtain ⟨rfl, rfl, rfl⟩ := hv
    exact ⟨cur, hh, by omega⟩

/-- what only block g has turned -/
def Only (g : Nat) (w w' : World) : Prop := w'.heap.size = w.heap.size ∧ (∀ k, k ≠ g → w'.heap[k]? = w.heap[k]?) ∧ w'.os = w.os ∧ w'.tape = w.tape ∧ w'.output = w.output
theorem only_refl (g : Nat) (w : World) : Only g w w := ⟨rfl, fun _ _ => rfl, rfl, rfl, rfl⟩
theorem only_set {g : Nat} {w w' : World} (h : Only g w w') (i : Nat) (u : Value) : Only g w (w'.setCell ⟨g, i, none⟩ u) :=
  ⟨by rw [size_setCell]; exact h.1, fun k hk => by rw [heap_setCell_other _ _ _ _ hk]; exact h.2.1 k hk, h.2.2.1, h.2.2.2.1, h.2.2.2.2⟩
theorem only_put (g k : Nat) (v : Int) (w : World) : ∀ j, Only g w (putW w g k v j)
  | 0 => only_refl g w
  | j + 1 => only_set (only_put g k v w j) (k + j) _
theorem only_putD4 (g k : Nat) (v : Int) (w : World) : Only g w (putD4 w g k v) := only_set (only_set (only_set (only_set (only_refl g w) _ _) _ _) _ _) _ _
theorem only_putD2 (g k : Nat) (v : Int) (w : World) : Only g w (putD2 w g k v) := only_set (only_set (only_refl g w) _ _) _ _
theorem only_putD1 (g k : Nat) (v : Int) (w : World) : Only g w (putD1 w g k v) := only_set (only_refl g w) _ _
theorem only_below {B g : Nat} {a w w' : World} (h : Below B a w) (ho : Only g w w') (hg : B ≤ g) : Below B a w' :=
  ⟨ho.2.2.1.trans h.os, ho.2.2.2.1.trans h.tape, ho.2.2.2.2.trans h.output, by rw [ho.1]; exact h.size, fun k hk => (ho.2.1 k (by omega)).trans (h.block k hk)⟩
theorem only_blk {g k : Nat} {w w' : World} {cs : Array Value} {t : TypeId} (ho : Only g w w') (h : Blk w k cs t) (hk : k ≠ g) : Blk w' k cs t := by
  unfold Blk at *; rw [ho.2.1 k hk]; exact h
theorem only_ob {g base : Nat} {w w' : World} {v : Value} {zs : List Int} (ho : Only g w w') (h : OB w base v zs) (hk : v.ownBlock ≠ some g) : OB w' base v zs := by
  refine ⟨?_, h.2⟩
  obtain ⟨hl, h0 | ⟨g', cap, cur, rfl, hg, hh, h1, h2, h3, h4⟩⟩ := h.1
  · exact ⟨hl, .inl h0⟩
  · refine ⟨hl, .inr ⟨g', cap, cur, rfl, hg, ?_, h1, h2, h3, h4⟩⟩
    exact only_blk ho hh (by intro e; subst e; exact hk rfl)

theorem put_word (zs : List Int) (k : Nat) (v : Int) : put zs k (v % 4294967296) 4 = put zs k v 4 ∧ put zs k (v % 4294967296) 2 = put zs k v 2 ∧ put zs k (v % 4294967296) 1 = put zs k v 1 := by
  obtain ⟨e0, e1, e2, e3⟩ := bt_word v
  simp only [put, e0, e1, e2, e3, and_self]
end Go.Proofs.Ytngdgogjlpjjpac
