import Derived.Test.YtaillnegkfagfacGreatJ05
import Derived.Test.YtaillnegkfagfacGreatJ03
import Derived.Deep.RegionHeld3
namespace Go.Proofs.YtaillnegkfagfacGreat
open Go.RowKit
set_option linter.unusedVariables false

theorem mod_word (v : Int) : ((v.tmod 4294967296) + 4294967296).tmod 4294967296 = v % 4294967296 := by
  have h := Int.tmod_eq_emod (a := v) (b := 4294967296)
  have hlt : -4294967296 < v.tmod 4294967296 := by
    have := Int.lt_tmod_of_pos v (show (0:Int) < 4294967296 by omega)
    exact this
  rw [Int.tmod_eq_emod_of_nonneg (by omega)]
  split at h <;> omega

set_option maxHeartbeats 400000 in
theorem l1Mod_word (v : Int) (w : World) (hv : -9223372036854775808 ≤ v ∧ v ≤ 9223372036854775807) :
    Calls Tryz.prog 47 #[.int .i64 v, .int .i64 4294967296] w fun e w' => e = .returned (.int .i64 (v % 4294967296)) ∧ w = w' := by
  have hlt : -4294967296 < v.tmod 4294967296 := Int.lt_tmod_of_pos v (by omega)
  have hgt : v.tmod 4294967296 < 4294967296 := Int.tmod_lt_of_pos v (by omega)
  have HM := hide (mod_word v)
  go_enter Tryz.func47, Tryz.ntmps47
  go_wp2
  go_ret
  exact ⟨ret_int (by have := HM.out; rwa [Int.tmod_eq_emod_of_nonneg (by omega)] at this), rfl⟩

set_option maxHeartbeats 400000 in
theorem l1Word_any (v : Int) (w : World) (hv : -9223372036854775808 ≤ v ∧ v ≤ 9223372036854775807) :
    Calls Tryz.prog 22 #[.int .i64 v] w fun e w' => e = .returned (.int .i64 (v % 4294967296)) ∧ w = w' := by
  go_enter Tryz.func22, Tryz.ntmps22
  go_wp2_with fail
  refine (l1Mod_word v _ hv).mono ?_
  rintro e w1 ⟨rfl, rfl⟩
  go_wp2
  go_ret
  exact ⟨rfl, rfl⟩

/-- BYTE j OF A NUMBER. -/
def bt (v : Int) (j : Nat) : Int := v / (256:Int)^j % 256
/-- THE WORLD WITH THE FIRST j BYTES OF v AT k. -/
def putW (w : World) (g k : Nat) (v : Int) : Nat → World
  | 0 => w
  | j + 1 => (putW w g k v j).setCell ⟨g, k + j, none⟩ (.int .u8 (bt v j))
def put (zs : List Int) (k : Nat) (v : Int) : Nat → List Int
  | 0 => zs
  | j + 1 => (put zs k v j).set (k + j) (bt v j)

theorem bt_range (v : Int) (j : Nat) : 0 ≤ bt v j ∧ bt v j ≤ 255 := by unfold bt; omega
theorem bt_succ (v : Int) (j : Nat) : v / (256:Int)^j / 256 = v / (256:Int)^(j+1) := by
  rw [Int.pow_succ, Int.ediv_ediv_of_nonneg (Int.le_of_lt (Int.pow_pos (by omega)))]
theorem put_len (zs : List Int) (k : Nat) (v : Int) : ∀ j, (put zs k v j).length = zs.length
  | 0 => rfl
  | j + 1 => by rw [put, List.length_set, put_len zs k v j]

/-- CELLS OF A BLOCK ALL OF WHICH ARE THERE AND ARE NOT FROZEN. -/
def Room (w : World) (g n : Nat) : Prop := ∃ cur, Blk w g cur 5 ∧ n ≤ cur.size
theorem Room.cell {w : World} {g n : Nat} (h : Room w g n) (i : Nat) (hi : i < n) : ∃ u, w.cell? ⟨g, i, none⟩ = some u := by
  obtain ⟨cur, hb, hn⟩ := h
  rw [hb.cell]
  exact ⟨cur[i], by simp⟩
theorem Room.frozen {w : World} {g n : Nat} (h : Room w g n) (i : Nat) : w.frozen? ⟨g, i, none⟩ = false := by
  obtain ⟨cur, hb, hn⟩ := h
  exact hb.frozen i
theorem Room.set {w : World} {g n : Nat} (h : Room w g n) (i : Nat) (u : Value) : Room (w.setCell ⟨g, i, none⟩ u) g n := by
  obtain ⟨cur, hb, hn⟩ := h
  exact ⟨_, hb.set i u, by simpa using hn⟩
theorem Room.put {w : World} {g n : Nat} (h : Room w g n) (k : Nat) (v : Int) : ∀ j, Room (putW w g k v j) g n
  | 0 => h
  | j + 1 => (Room.put h k v j).set (k + j) _

set_option maxHeartbeats 1000000 in
theorem l1Put_any (g n cap k : Nat) (s v : Int) (w : World) (h : Room w g n) (hn : n ≤ 16384) (hs1 : 1 ≤ s) (hs : s ≤ 4) (hk : (k : Int) + s ≤ n) (hv0 : 0 ≤ v) (hv1 : v ≤ 4294967295) :
    Calls Tryz.prog 13 #[.slice (some ⟨g, 0, none⟩) n cap, .int .i64 k, .int .i64 s, .int .i64 v] w fun e w' => e = .returned (.tuple #[]) ∧ w' = putW w g k v s.toNat := by
  go_enter Tryz.func13, Tryz.ntmps13
  go_wp2
  go_loopw [3, 8] (fun x i wr => ∃ j : Nat, (j : Int) ≤ s ∧ i = .int .i64 j ∧ x = .int .i64 (v / (256:Int)^j) ∧ wr = putW w g k v j) (fun _ i _ => s.toNat - (intOf i).toNat)
  case atStart => exact ⟨0, by omega, rfl, by simp, rfl⟩
  case round =>
    obtain ⟨j, hj, rfl, rfl, rfl⟩ := hrel
    by_cases hlt : (j : Int) < s
    · have hR := h.put k v j
      obtain ⟨u, hu⟩ := hR.cell (k + j) (by omega)
      have hf := hR.frozen (k + j)
      have hp : 0 < (256:Int)^j := Int.pow_pos (by omega)
      have hq0 : 0 ≤ v / (256:Int)^j := Int.ediv_nonneg hv0 (by omega)
      have hq1 : v / (256:Int)^j ≤ v := Int.ediv_le_self _ hv0
      have HS := hide (bt_succ v j)
      have hW : putW w g k v (j + 1) = (putW w g k v j).setCell ⟨g, k + j, none⟩ (.int .u8 (v / (256:Int)^j % 256)) := rfl
      have HW := hide hW
      clear hW hR hp
      generalize putW w g k v j = W at *
      generalize v / (256:Int)^j = q at *
      go_wp2
      go_roundw
      case rel => exact ⟨j + 1, by omega, by go_num, by rw [HS.out], HW.out.symm⟩
      case measure => simp [intOf]; omega
    · have hjs : s.toNat = j := by omega
      have HJ := hide hjs
      clear hjs
      generalize v / (256:Int)^j = q at *
      go_wp2
      go_end0
      exact ⟨rfl, by rw [HJ.out]⟩

/-- the bytes as the program writes them: the highest first -/
def putD4 (w : World) (g k : Nat) (v : Int) : World :=
  (((w.setCell ⟨g, k + 3, none⟩ (.int .u8 (bt v 3))).setCell ⟨g, k + 2, none⟩ (.int .u8 (bt v 2))).setCell ⟨g, k + 1, none⟩ (.int .u8 (bt v 1))).setCell ⟨g, k, none⟩ (.int .u8 (bt v 0))
def putD2 (w : World) (g k : Nat) (v : Int) : World := (w.setCell ⟨g, k + 1, none⟩ (.int .u8 (bt v 1))).setCell ⟨g, k, none⟩ (.int .u8 (bt v 0))
def putD1 (w : World) (g k : Nat) (v : Int) : World := w.setCell ⟨g, k, none⟩ (.int .u8 (bt v 0))

theorem bt0 (v : Int) : bt v 0 = v % 256 := by unfold bt; simp
theorem bt1 (v : Int) : bt v 1 = v / 256 % 256 := by unfold bt; simp
theorem bt2 (v : Int) : bt v 2 = v / 65536 % 256 := by unfold bt; rw [show (256:Int)^2 = 65536 from rfl]
theorem bt3 (v : Int) : bt v 3 = v / 16777216 % 256 := by unfold bt; rw [show (256:Int)^3 = 16777216 from rfl]

set_option maxHeartbeats 1000000 in
theorem putBytes_4 (g n cap k : Nat) (v : Int) (w : World) (h : Room w g (k + 4)) (hn : 4 ≤ n) (hv : -9223372036854775808 ≤ v ∧ v ≤ 9223372036854775807) :
    Calls Tryz.prog 109 #[.slice (some ⟨g, k, none⟩) n cap, .int .i64 4, .int .i64 v] w fun e w' => e = .returned (.tuple #[]) ∧ w' = putD4 w g k v := by
  obtain ⟨u0, c0⟩ := h.cell k (by omega)
  obtain ⟨u1, c1⟩ := h.cell (k + 1) (by omega)
  obtain ⟨u2, c2⟩ := h.cell (k + 2) (by omega)
  obtain ⟨u3, c3⟩ := h.cell (k + 3) (by omega)
  have hf : ∀ i, w.frozen? ⟨g, i, none⟩ = false := h.frozen
  have hl : (3 : Int) < (n : Int) := by omega
  obtain ⟨hv0, hv1⟩ := hv
  have HP := hide (show putD4 w g k v = putD4 w g k v from rfl)
  unfold putD4
  rw [bt3, bt2, bt1, bt0]
  go_enter Tryz.func109, Tryz.ntmps109
  go_wp2
  go_end0
  exact ⟨rfl, rfl⟩

set_option maxHeartbeats 1000000 in
theorem putBytes_2 (g n cap k : Nat) (v : Int) (w : World) (h : Room w g (k + 2)) (hn : 2 ≤ n) (hv : -9223372036854775808 ≤ v ∧ v ≤ 9223372036854775807) :
    Calls Tryz.prog 109 #[.slice (some ⟨g, k, none⟩) n cap, .int .i64 2, .int .i64 v] w fun e w' => e = .returned (.tuple #[]) ∧ w' = putD2 w g k v := by
  obtain ⟨u0, c0⟩ := h.cell k (by omega)
  obtain ⟨u1, c1⟩ := h.cell (k + 1) (by omega)
  have hf : ∀ i, w.frozen? ⟨g, i, none⟩ = false := h.frozen
  have hl : (1 : Int) < (n : Int) := by omega
  obtain ⟨hv0, hv1⟩ := hv
  have HP := hide (show putD2 w g k v = putD2 w g k v from rfl)
  unfold putD2
  rw [bt1, bt0]
  go_enter Tryz.func109, Tryz.ntmps109
  go_wp2
  go_end0
  exact ⟨rfl, rfl⟩

set_option maxHeartbeats 1000000 in
theorem putBytes_1 (g n cap k : Nat) (v : Int) (w : World) (h : Room w g (k + 1)) (hn : 1 ≤ n) (hv : -9223372036854775808 ≤ v ∧ v ≤ 9223372036854775807) :
    Calls Tryz.prog 109 #[.slice (some ⟨g, k, none⟩) n cap, .int .i64 1, .int .i64 v] w fun e w' => e = .returned (.tuple #[]) ∧ w' = putD1 w g k v := by
  obtain ⟨u0, c0⟩ := h.cell k (by omega)
  have hf : ∀ i, w.frozen? ⟨g, i, none⟩ = false := h.frozen
  have hl : (0 : Int) < (n : Int) := by omega
  obtain ⟨hv0, hv1⟩ := hv
  have HP := hide (show putD1 w g k v = putD1 w g k v from rfl)
  unfold putD1
  rw [bt0]
  go_enter Tryz.func109, Tryz.ntmps109
  go_wp2
  go_end0
  exact ⟨rfl, rfl⟩

theorem bt_word (v : Int) : bt (v % 4294967296) 0 = bt v 0 ∧ bt (v % 4294967296) 1 = bt v 1 ∧ bt (v % 4294967296) 2 = bt v 2 ∧ bt (v % 4294967296) 3 = bt v 3 := by
  rw [bt0, bt1, bt2, bt3, bt0, bt1, bt2, bt3]
  omega

theorem put_desc4 (zs : List Int) (k : Nat) (v : Int) : put zs k v 4 = (((zs.set (k + 3) (bt v 3)).set (k + 2) (bt v 2)).set (k + 1) (bt v 1)).set k (bt v 0) := by
  simp only [put, Nat.add_zero]
  rw [List.set_comm _ _ (show k ≠ k + 1 by omega), List.set_comm _ _ (show k ≠ k + 2 by omega), List.set_comm _ _ (show k ≠ k + 3 by omega)]
  congr 1
  rw [List.set_comm _ _ (show k + 1 ≠ k + 2 by omega), List.set_comm _ _ (show k + 1 ≠ k + 3 by omega)]
  congr 1
  rw [List.set_comm _ _ (show k + 2 ≠ k + 3 by omega)]
theorem put_desc2 (zs : List Int) (k : Nat) (v : Int) : put zs k v 2 = (zs.set (k + 1) (bt v 1)).set k (bt v 0) := by
  simp only [put, Nat.add_zero]
  rw [List.set_comm _ _ (show k ≠ k + 1 by omega)]

/-- a byte is set in a slice of the call's own -/
theorem ob_set {w : World} {base g n cap : Nat} {zs : List Int} (h : OB w base (.slice (some ⟨g, 0, none⟩) n cap) zs) (i : Nat) (hi : i < n) (z : Int) (hz : 0 ≤ z ∧ z ≤ 255) : OB (w.setCell ⟨g, i, none⟩ (.int .u8 z)) base (.slice (some ⟨g, 0, none⟩) n cap) (zs.set i z) := by
  obtain ⟨⟨hl, h0 | ⟨g', cap', cur, hv, hg, hh, h1, h2, h3, h4⟩⟩, hr⟩ := h
  · simp at h0
  · simp at hv
    obtain ⟨rfl, rfl, rfl⟩ := hv
    refine ⟨⟨by simp, .inr ⟨g, cap, cur.setIfInBounds i (.int .u8 z), by simp, hg, Blk.set (w := w) hh i _, by simpa using h1, h2, by simpa using h3, ?_⟩⟩, ?_⟩
    · rw [List.length_set, Array.toList_setIfInBounds, List.take_set, h4, List.map_set]
    · intro y hy
      rcases List.mem_or_eq_of_mem_set hy with hy | rfl
      · exact hr y hy
      · exact hz
theorem ob_put {w : World} {base g n cap : Nat} {zs : List Int} (h : OB w base (.slice (some ⟨g, 0, none⟩) n cap) zs) (k : Nat) (v : Int) : ∀ j, k + j ≤ n → OB (putW w g k v j) base (.slice (some ⟨g, 0, none⟩) n cap) (put zs k v j)
  | 0, _ => h
  | j + 1, hj => ob_set (ob_put h k v j (by omega)) (k + j) (by omega) _ (bt_range v j)
theorem ob_putD4 {w : World} {base g n cap : Nat} {zs : List Int} (h : OB w base (.slice (some ⟨g, 0, none⟩) n cap) zs) (k : Nat) (v : Int) (hk : k + 4 ≤ n) : OB (putD4 w g k v) base (.slice (some ⟨g, 0, none⟩) n cap) (put zs k v 4) := by
  rw [put_desc4]
  exact ob_set (ob_set (ob_set (ob_set h (k + 3) (by omega) _ (bt_range v 3)) (k + 2) (by omega) _ (bt_range v 2)) (k + 1) (by omega) _ (bt_range v 1)) k (by omega) _ (bt_range v 0)
theorem ob_putD2 {w : World} {base g n cap : Nat} {zs : List Int} (h : OB w base (.slice (some ⟨g, 0, none⟩) n cap) zs) (k : Nat) (v : Int) (hk : k + 2 ≤ n) : OB (putD2 w g k v) base (.slice (some ⟨g, 0, none⟩) n cap) (put zs k v 2) := by
  rw [put_desc2]
  exact ob_set (ob_set h (k + 1) (by omega) _ (bt_range v 1)) k (by omega) _ (bt_range v 0)
theorem ob_putD1 {w : World} {base g n cap : Nat} {zs : List Int} (h : OB w base (.slice (some ⟨g, 0, none⟩) n cap) zs) (k : Nat) (v : Int) (hk : k + 1 ≤ n) : OB (putD1 w g k v) base (.slice (some ⟨g, 0, none⟩) n cap) (put zs k v 1) :=
  ob_set h k (by omega) _ (bt_range v 0)
theorem ob_room {w : World} {base g n cap : Nat} {zs : List Int} (h : OB w base (.slice (some ⟨g, 0, none⟩) n cap) zs) : Room w g n := by
  obtain ⟨⟨hl, h0 | ⟨g', cap', cur, hv, hg, hh, h1, h2, h3, h4⟩⟩, hr⟩ := h
  · simp at h0
  · simp at hv
    obtain ⟨rfl, rfl, rfl⟩ := hv
    exact ⟨cur, hh, by omega⟩

/-- what only block g has turned -/
def Only (g : Nat) (w w' : World) : Prop := w'.heap.size = w.heap.size ∧ (∀ k, k ≠ g → w'.heap[k]? = w.heap[k]?) ∧ w'.os = w.os ∧ w'.tape = w.tape ∧ w'.output = w.output
theorem only_refl (g : Nat) (w : World) : Only g w w := ⟨rfl, fun _ _ => rfl, rfl, rfl, rfl⟩
theorem only_set {g : Nat} {w w' : World} (h : Only g w w') (i : Nat) (u : Value) : Only g w (w'.setCell ⟨g, i, none⟩ u) :=
  ⟨by rw [size_setCell]; exact h.1, fun k hk => by rw [heap_setCell_other _ _ _ _ hk]; exact h.2.1 k hk, h.2.2.1, h.2.2.2.1, h.2.2.2.2⟩
theorem only_put (g k : Nat) (v : Int) (w : World) : ∀ j, Only g w (putW w g k v j)
  | 0 => only_refl g w
  | j + 1 => only_set (only_put g k v w j) (k + j) _
theorem only_putD4 (g k : Nat) (v : Int) (w : World) : Only g w (putD4 w g k v) := only_set (only_set (only_set (only_set (only_refl g w) _ _) _ _) _ _) _ _
theorem only_putD2 (g k : Nat) (v : Int) (w : World) : Only g w (putD2 w g k v) := only_set (only_set (only_refl g w) _ _) _ _
theorem only_putD1 (g k : Nat) (v : Int) (w : World) : Only g w (putD1 w g k v) := only_set (only_refl g w) _ _
theorem only_below {B g : Nat} {a w w' : World} (h : Below B a w) (ho : Only g w w') (hg : B ≤ g) : Below B a w' :=
  ⟨ho.2.2.1.trans h.os, ho.2.2.2.1.trans h.tape, ho.2.2.2.2.trans h.output, by rw [ho.1]; exact h.size, fun k hk => (ho.2.1 k (by omega)).trans (h.block k hk)⟩
theorem only_blk {g k : Nat} {w w' : World} {cs : Array Value} {t : TypeId} (ho : Only g w w') (h : Blk w k cs t) (hk : k ≠ g) : Blk w' k cs t := by
  unfold Blk at *; rw [ho.2.1 k hk]; exact h
theorem only_ob {g base : Nat} {w w' : World} {v : Value} {zs : List Int} (ho : Only g w w') (h : OB w base v zs) (hk : v.ownBlock ≠ some g) : OB w' base v zs := by
  refine ⟨?_, h.2⟩
  obtain ⟨hl, h0 | ⟨g', cap, cur, rfl, hg, hh, h1, h2, h3, h4⟩⟩ := h.1
  · exact ⟨hl, .inl h0⟩
  · refine ⟨hl, .inr ⟨g', cap, cur, rfl, hg, ?_, h1, h2, h3, h4⟩⟩
    exact only_blk ho hh (by intro e; subst e; exact hk rfl)

theorem put_word (zs : List Int) (k : Nat) (v : Int) : put zs k (v % 4294967296) 4 = put zs k v 4 ∧ put zs k (v % 4294967296) 2 = put zs k v 2 ∧ put zs k (v % 4294967296) 1 = put zs k v 1 := by
  obtain ⟨e0, e1, e2, e3⟩ := bt_word v
  simp only [put, e0, e1, e2, e3, and_self]
end Go.Proofs.YtaillnegkfagfacGreat

namespace Go.Proofs.YtaillnegkfagfacGreat
open Go.RowKit
set_option linter.unusedVariables false
set_option linter.unusedSimpArgs false
set_option maxRecDepth 100000

/-- a widened number -/
def wide (i : Int) : Int := if 32768 ≤ i then i - 65536 else i
theorem wide_range (i : Int) (h0 : 0 ≤ i) (h1 : i ≤ 65535) : -32768 ≤ wide i ∧ wide i ≤ 32767 := by unfold wide; split <;> omega

set_option maxHeartbeats 400000 in
theorem l3Wide_any (i : Int) (w : World) (h0 : 0 ≤ i) (h1 : i ≤ 65535) :
    Calls Tryz.prog 27 #[.int .i64 i] w fun e w' => e = .returned (.int .i64 (wide i)) ∧ w = w' := by
  unfold wide
  by_cases h : 32768 ≤ i
  · rw [if_pos h]
    go_enter Tryz.func27, Tryz.ntmps27
    go_wp2
    go_ret
    exact ⟨rfl, rfl⟩
  · rw [if_neg h]
    go_enter Tryz.func27, Tryz.ntmps27
    go_wp2
    go_ret
    exact ⟨rfl, rfl⟩

/-- WHAT AN OPERATION THAT IS LEFT TO OTHERS DID, and its number. -/
def ev (op i nx : Int) : Int × Int := if op = 1 then (1, 0) else if op = 23 then (2, (nx + 4 * wide i) % 4294967296) else if op = 24 then (3, i) else if op = 25 then (4, 0) else (0, 0)

set_option maxHeartbeats 1000000 in
theorem l3Event_any (op d a i nx : Int) (w : World) (h0 : 0 ≤ i) (h1 : i ≤ 65535) (n0 : 0 ≤ nx) (n1 : nx ≤ 4294967295) :
    Calls Tryz.prog 23 #[.agg #[.int .i64 op, .int .i64 d, .int .i64 a, .int .i64 i], .int .i64 nx] w fun e w' => e = .returned (.tuple #[.int .i64 (ev op i nx).1, .int .i64 (ev op i nx).2]) ∧ Below w.heap.size w w' := by
  by_cases c1 : op = 1
  · subst c1
    go_enter Tryz.func23, Tryz.ntmps23
    go_wp2
    go_ret2
    exact ⟨rfl, (Below.refl _ _).alloc (Nat.le_refl _) _⟩
  · by_cases c2 : op = 23
    · subst c2
      obtain ⟨x0, x1⟩ := wide_range i h0 h1
      have HW := hide (fun w => l3Wide_any i w h0 h1)
      have e : ev 23 i nx = (2, (nx + 4 * wide i) % 4294967296) := rfl
      rw [e]
      generalize wide i = x at *
      have HL := hide (fun w => l1Word_any (nx + 4 * x) w (by omega))
      clear e
      go_enter Tryz.func23, Tryz.ntmps23
      go_wp2_with (first | (go_at_call 27; refine (HW.out _).mono ?_; rintro e w' ⟨rfl, rfl⟩) | (go_at_call 22; refine (HL.out _).mono ?_; rintro e w' ⟨rfl, rfl⟩))
      go_ret2
      exact ⟨rfl, (Below.refl _ _).alloc (Nat.le_refl _) _⟩
    · by_cases c3 : op = 24
      · subst c3
        have hB : Below w.heap.size w (w.alloc (.cells #[.int .i64 24, .int .i64 d, .int .i64 a, .int .i64 i] 53)) := (Below.refl _ _).alloc (Nat.le_refl _) _
        have HB := hide hB
        clear hB
        go_enter Tryz.func23, Tryz.ntmps23
        go_wp2
        go_region
        all_goals (try go_wp2)
        all_goals
          go_ret2
          exact ⟨rfl, by first | exact HB.out | exact HB.out.drew⟩
      · by_cases c4 : op = 25
        · subst c4
          go_enter Tryz.func23, Tryz.ntmps23
          go_wp2
          go_ret2
          exact ⟨rfl, (Below.refl _ _).alloc (Nat.le_refl _) _⟩
        · have HE : Hid (ev op i nx = (0, 0)) := by show _ = _; unfold ev; rw [if_neg c1, if_neg c2, if_neg c3, if_neg c4]
          have k1 : (op == 1) = false := by simpa using c1
          have k2 : (op == 23) = false := by simpa using c2
          have k3 : (op == 24) = false := by simpa using c3
          have k4 : (op == 25) = false := by simpa using c4
          rw [HE.out]
          clear c1 c2 c3 c4
          go_enter Tryz.func23, Tryz.ntmps23
          go_wp2
          go_ret2
          exact ⟨rfl, (Below.refl _ _).alloc (Nat.le_refl _) _⟩

/-- does it jump? -/
def jmp (op d : Int) : Bool := decide (op = 20 ∨ (op = 21 ∧ d = 0) ∨ (op = 22 ∧ 2147483648 ≤ d))
set_option maxHeartbeats 1000000 in
theorem l3Jumps_any (op d a i x : Int) (w : World) :
    Calls Tryz.prog 26 #[.agg #[.int .i64 op, .int .i64 d, .int .i64 a, .int .i64 i], .int .i64 x] w fun e w' => e = .returned (.bool (jmp op x)) ∧ Below w.heap.size w w' := by
  by_cases c1 : op = 20
  · subst c1
    go_enter Tryz.func26, Tryz.ntmps26
    go_wp2
    go_ret
    exact ⟨ret_bool (by simp [jmp]), (Below.refl _ _).alloc (Nat.le_refl _) _⟩
  · by_cases c2 : op = 21
    · subst c2
      go_enter Tryz.func26, Tryz.ntmps26
      go_wp2
      all_goals
        go_ret
        refine ⟨ret_bool ?_, (Below.refl _ _).alloc (Nat.le_refl _) _⟩
        rw [Bool.eq_iff_iff]
        simp [jmp]
        try omega
    · by_cases c3 : op = 22
      · subst c3
        go_enter Tryz.func26, Tryz.ntmps26
        go_wp2
        all_goals
          go_ret
          refine ⟨ret_bool ?_, (Below.refl _ _).alloc (Nat.le_refl _) _⟩
          rw [Bool.eq_iff_iff]
          simp [jmp]
          try omega
      · have k1 : (op == 20) = false := by simpa using c1
        have k2 : (op == 21) = false := by simpa using c2
        have k3 : (op == 22) = false := by simpa using c3
        have HJ : Hid (jmp op x = false) := by show _ = _; simp [jmp]; omega
        clear c1 c2 c3
        go_enter Tryz.func26, Tryz.ntmps26
        go_wp2
        go_ret
        exact ⟨ret_bool HJ.out.symm, (Below.refl _ _).alloc (Nat.le_refl _) _⟩
end Go.Proofs.YtaillnegkfagfacGreat

namespace Go.Proofs.YtaillnegkfagfacGreat
open Go.RowKit
set_option linter.unusedVariables false
set_option linter.unusedSimpArgs false
set_option maxRecDepth 100000

/-- THE PROCESSOR AT BLOCK g: pc, eight registers, memory, regions. -/
structure Pr (w : World) (g : Nat) (pc : Int) (rg : List Int) (s1 s2 s3 s4 : Value) : Prop where
  blk : Blk w g (#[.int .u32 pc] ++ (rg.map (Value.int .u32)).toArray ++ #[s1, s2, s3, s4]) 71
  len : rg.length = 8
  pcw : 0 ≤ pc ∧ pc ≤ 4294967295
  rgw : ∀ z ∈ rg, 0 ≤ z ∧ z ≤ 4294967295
theorem Pr.pc {w : World} {g : Nat} {pc : Int} {rg : List Int} {s1 s2 s3 s4 : Value} (h : Pr w g pc rg s1 s2 s3 s4) : w.cell? ⟨g, 0, none⟩ = some (.int .u32 pc) := by
  rw [h.blk.cell]
  simp
theorem Pr.reg {w : World} {g : Nat} {pc : Int} {rg : List Int} {s1 s2 s3 s4 : Value} (h : Pr w g pc rg s1 s2 s3 s4) (i : Nat) (hi : i < 8) : w.cell? ⟨g, 1 + i, none⟩ = some (.int .u32 (rg.getD i 0)) := by
  rw [h.blk.cell]
  have hl := h.len
  rw [Array.getElem?_append_left (by simp; omega), Array.getElem?_append_right (by simp)]
  simp [List.getD_eq_getElem?_getD, show i < rg.length by omega]
theorem Pr.range {w : World} {g : Nat} {pc : Int} {rg : List Int} {s1 s2 s3 s4 : Value} (h : Pr w g pc rg s1 s2 s3 s4) (i : Nat) : 0 ≤ rg.getD i 0 ∧ rg.getD i 0 ≤ 4294967295 := by
  by_cases hi : i < rg.length
  · have := h.rgw rg[i] (List.getElem_mem hi)
    simpa [List.getD_eq_getElem?_getD, hi] using this
  · simp [List.getD_eq_getElem?_getD, Nat.le_of_not_lt hi]

theorem wrap_i16 (n : Int) : IntKind.i16.wrap n = (n + 32768) % 65536 - 32768 := by
  simp [IntKind.wrap, IntKind.bits, IntKind.signed]
  split <;> omega
set_option maxHeartbeats 400000 in
theorem widened_any (i : Int) (w : World) (h0 : 0 ≤ i) (h1 : i ≤ 65535) :
    Calls Tryz.prog 101 #[.int .i64 i] w fun e w' => e = .returned (.int .u32 (wide i % 4294967296)) ∧ w = w' := by
  have HW : Hid (IntKind.i16.wrap i % 4294967296 = wide i % 4294967296) := by
    show _ = _
    rw [wrap_i16]
    unfold wide
    split <;> omega
  go_enter Tryz.func101, Tryz.ntmps101
  go_wp2
  go_ret
  exact ⟨ret_int HW.out, rfl⟩
set_option maxHeartbeats 400000 in
theorem pd_any (op d a i : Int) (g : Nat) (pc : Int) (rg : List Int) (s1 s2 s3 s4 : Value) (w : World) (h : Pr w g pc rg s1 s2 s3 s4) (d0 : 0 ≤ d) (d1 : d ≤ 7) :
    Calls Tryz.prog 64 #[.pointer (some ⟨g, 0, none⟩), .agg #[.int .i64 op, .int .i64 d, .int .i64 a, .int .i64 i]] w fun e w' => e = .returned (.int .u32 (rg.getD d.toNat 0)) ∧ Below w.heap.size w w' := by
  have hr := h.reg d.toNat (by omega)
  have hlt := World.block_lt_of_cell? w _ hr
  generalize rg.getD d.toNat 0 = z at *
  have HB := hide ((Below.refl w.heap.size w).alloc (Nat.le_refl _) (.cells #[.int .i64 op, .int .i64 d, .int .i64 a, .int .i64 i] 53))
  go_enter Tryz.func64, Tryz.ntmps64
  go_wp2
  go_quiet (fail)
  go_wp2
  go_ret
  exact ⟨rfl, ⟨HB.out.os, HB.out.tape, HB.out.output, HB.out.size, HB.out.block⟩⟩
set_option maxHeartbeats 400000 in
theorem pa_any (op d a i : Int) (g : Nat) (pc : Int) (rg : List Int) (s1 s2 s3 s4 : Value) (w : World) (h : Pr w g pc rg s1 s2 s3 s4) (d0 : 0 ≤ a) (d1 : a ≤ 7) :
    Calls Tryz.prog 66 #[.pointer (some ⟨g, 0, none⟩), .agg #[.int .i64 op, .int .i64 d, .int .i64 a, .int .i64 i]] w fun e w' => e = .returned (.int .u32 (rg.getD a.toNat 0)) ∧ Below w.heap.size w w' := by
  have hr := h.reg a.toNat (by omega)
  have hlt := World.block_lt_of_cell? w _ hr
  generalize rg.getD a.toNat 0 = z at *
  have HB := hide ((Below.refl w.heap.size w).alloc (Nat.le_refl _) (.cells #[.int .i64 op, .int .i64 d, .int .i64 a, .int .i64 i] 53))
  go_enter Tryz.func66, Tryz.ntmps66
  go_wp2
  go_quiet (fail)
  go_wp2
  go_ret
  exact ⟨rfl, ⟨HB.out.os, HB.out.tape, HB.out.output, HB.out.size, HB.out.block⟩⟩
set_option maxHeartbeats 400000 in
theorem pnext_any (g : Nat) (pc : Int) (rg : List Int) (s1 s2 s3 s4 : Value) (w : World) (h : Pr w g pc rg s1 s2 s3 s4) :
    Calls Tryz.prog 100 #[.pointer (some ⟨g, 0, none⟩)] w fun e w' => e = .returned (.int .u32 ((pc + 4) % 4294967296)) ∧ w = w' := by
  have hr := h.pc
  obtain ⟨p0, p1⟩ := h.pcw
  go_enter Tryz.func100, Tryz.ntmps100
  go_wp2
  go_ret
  exact ⟨rfl, rfl⟩

theorem Pr.below {w w' : World} {g : Nat} {pc : Int} {rg : List Int} {s1 s2 s3 s4 : Value} (h : Pr w g pc rg s1 s2 s3 s4) (hb : Below w.heap.size w w') : Pr w' g pc rg s1 s2 s3 s4 := ⟨h.blk.below hb, h.len, h.pcw, h.rgw⟩

set_option maxHeartbeats 1000000 in
theorem pnear_any (op d a i : Int) (g : Nat) (pc : Int) (rg : List Int) (s1 s2 s3 s4 : Value) (w : World) (h : Pr w g pc rg s1 s2 s3 s4) (a0 : 0 ≤ a) (a1 : a ≤ 7) (i0 : 0 ≤ i) (i1 : i ≤ 65535) :
    Calls Tryz.prog 69 #[.pointer (some ⟨g, 0, none⟩), .agg #[.int .i64 op, .int .i64 d, .int .i64 a, .int .i64 i]] w fun e w' => e = .returned (.int .u32 ((rg.getD a.toNat 0 + wide i) % 4294967296)) ∧ Below w.heap.size w w' := by
  have hB0 : Below w.heap.size w (w.alloc (.cells #[.int .i64 op, .int .i64 d, .int .i64 a, .int .i64 i] 53)) := (Below.refl _ _).alloc (Nat.le_refl _) _
  have kb := Blk.new w #[.int .i64 op, .int .i64 d, .int .i64 a, .int .i64 i] 53
  obtain ⟨z0, z1⟩ := h.range a.toNat
  obtain ⟨x0, x1⟩ := wide_range i i0 i1
  have HA := hide (fun w h => pa_any op d a i g pc rg s1 s2 s3 s4 w h a0 a1)
  have HW := hide (fun w => widened_any i w i0 i1)
  have hlt := h.blk.lt
  have h' := h.below hB0
  generalize rg.getD a.toNat 0 = z at *
  generalize wide i = x at *
  have EQ := hide (show ∀ y : Int, y = IntKind.u32.wrap (z + x % 4294967296) → y = (z + x) % 4294967296 from fun y hy => by rw [hy, IntKind.wrap_u32]; omega)
  obtain ⟨q1, q2, q3, q4, q5⟩ := kb.four'
  go_enter Tryz.func69, Tryz.ntmps69
  go_wp2
  go_region_held3 (fun w' => w'.cell? ⟨w.heap.size, 0, none⟩ = some (.int .i64 op) ∧ w'.cell? ⟨w.heap.size, 1, none⟩ = some (.int .i64 d) ∧ w'.cell? ⟨w.heap.size, 2, none⟩ = some (.int .i64 a) ∧ w'.cell? ⟨w.heap.size, 3, none⟩ = some (.int .i64 i)) (go_keep)
    (first
      | (go_at_call 66; refine (HA.out _ ?_).mono ?_; exact ⟨h'.blk, h'.len, h'.pcw, h'.rgw⟩; rintro e w1 ⟨rfl, hb1⟩; replace hb1 := undrew hb1; obtain ⟨r1, r2, r3, r4, r5⟩ := (kb.below hb1).four')
      | (go_at_call 101; refine (HW.out _).mono ?_; rintro e w2 ⟨rfl, rfl⟩))
  go_wp2
  go_ret
  exact ⟨ret_int (by first | exact EQ.out _ rfl | omega), hB0.trans (hb1.mono (by simp))⟩
set_option maxHeartbeats 1000000 in
theorem ptarget_any (op d a i : Int) (g : Nat) (pc : Int) (rg : List Int) (s1 s2 s3 s4 : Value) (w : World) (h : Pr w g pc rg s1 s2 s3 s4) (i0 : 0 ≤ i) (i1 : i ≤ 65535) :
    Calls Tryz.prog 90 #[.pointer (some ⟨g, 0, none⟩), .agg #[.int .i64 op, .int .i64 d, .int .i64 a, .int .i64 i]] w fun e w' => e = .returned (.int .u32 ((pc + 4 + 4 * wide i) % 4294967296)) ∧ Below w.heap.size w w' := by
  have hB0 : Below w.heap.size w (w.alloc (.cells #[.int .i64 op, .int .i64 d, .int .i64 a, .int .i64 i] 53)) := (Below.refl _ _).alloc (Nat.le_refl _) _
  obtain ⟨p0, p1⟩ := h.pcw
  obtain ⟨x0, x1⟩ := wide_range i i0 i1
  have HN := hide (fun w h => pnext_any g pc rg s1 s2 s3 s4 w h)
  have HW := hide (fun w => widened_any i w i0 i1)
  have h' := h.below hB0
  generalize wide i = x at *
  have kb := Blk.new w #[.int .i64 op, .int .i64 d, .int .i64 a, .int .i64 i] 53
  obtain ⟨q1, q2, q3, q4, q5⟩ := kb.four'
  have EQ := hide (show ∀ y : Int, y = IntKind.u32.wrap ((pc + 4) % 4294967296 + IntKind.u32.wrap (4 * (x % 4294967296))) → y = (pc + 4 + 4 * x) % 4294967296 from fun y hy => by rw [hy, IntKind.wrap_u32, IntKind.wrap_u32]; omega)
  have HB := hide hB0
  go_enter Tryz.func90, Tryz.ntmps90
  go_wp2
  go_region_held3 (fun w' => w'.cell? ⟨w.heap.size, 0, none⟩ = some (.int .i64 op) ∧ w'.cell? ⟨w.heap.size, 1, none⟩ = some (.int .i64 d) ∧ w'.cell? ⟨w.heap.size, 2, none⟩ = some (.int .i64 a) ∧ w'.cell? ⟨w.heap.size, 3, none⟩ = some (.int .i64 i)) (go_keep)
    (first
      | (go_at_call 100; refine (HN.out _ ?_).mono ?_; exact ⟨h'.blk, h'.len, h'.pcw, h'.rgw⟩; rintro e w1 ⟨rfl, rfl⟩)
      | (go_at_call 101; refine (HW.out _).mono ?_; rintro e w2 ⟨rfl, rfl⟩))
  go_wp2
  go_ret
  exact ⟨ret_int (by first | exact EQ.out _ rfl | omega), by first | exact HB.out | exact HB.out.drew⟩
end Go.Proofs.YtaillnegkfagfacGreat

namespace Go.Proofs.YtaillnegkfagfacGreat
open Go.RowKit
set_option linter.unusedVariables false
set_option linter.unusedSimpArgs false
set_option maxRecDepth 100000

theorem Pr.setpc {w : World} {g : Nat} {pc : Int} {rg : List Int} {s1 s2 s3 s4 : Value} (h : Pr w g pc rg s1 s2 s3 s4) (v : Int) (hv : 0 ≤ v ∧ v ≤ 4294967295) : Pr (w.setCell ⟨g, 0, none⟩ (.int .u32 v)) g v rg s1 s2 s3 s4 := by
  refine ⟨?_, h.len, hv, h.rgw⟩
  have := h.blk.set 0 (.int .u32 v)
  have e : (#[Value.int .u32 pc] ++ (rg.map (Value.int .u32)).toArray ++ #[s1, s2, s3, s4]).setIfInBounds 0 (.int .u32 v) = #[Value.int .u32 v] ++ (rg.map (Value.int .u32)).toArray ++ #[s1, s2, s3, s4] := by
    apply Array.toList_inj.1
    simp
  rw [e] at this
  exact this
theorem Pr.setreg {w : World} {g : Nat} {pc : Int} {rg : List Int} {s1 s2 s3 s4 : Value} (h : Pr w g pc rg s1 s2 s3 s4) (i : Nat) (hi : i < 8) (v : Int) (hv : 0 ≤ v ∧ v ≤ 4294967295) : Pr (w.setCell ⟨g, 1 + i, none⟩ (.int .u32 v)) g pc (rg.set i v) s1 s2 s3 s4 := by
  have hl := h.len
  refine ⟨?_, by rw [List.length_set]; exact hl, h.pcw, fun z hz => ?_⟩
  · have := h.blk.set (1 + i) (.int .u32 v)
    have e : (#[Value.int .u32 pc] ++ (rg.map (Value.int .u32)).toArray ++ #[s1, s2, s3, s4]).setIfInBounds (1 + i) (.int .u32 v) = #[Value.int .u32 pc] ++ ((rg.set i v).map (Value.int .u32)).toArray ++ #[s1, s2, s3, s4] := by
      apply Array.toList_inj.1
      rw [Array.toList_setIfInBounds]
      simp only [Array.toList_append, List.map_set]
      rw [List.set_append_left _ _ (by simp; omega), List.set_append_right _ _ (by simp)]
      simp
    rw [e] at this
    exact this
  · rcases List.mem_or_eq_of_mem_set hz with hz | rfl
    · exact h.rgw z hz
    · exact hv
theorem turn_setg (w : World) (g i : Nat) (v : Value) : Turn (fun j => j = g) w (w.setCell ⟨g, i, none⟩ v) := ⟨rfl, rfl, rfl, by rw [size_setCell]; exact Nat.le_refl _, fun j hj hn => heap_setCell_other _ _ _ _ hn⟩

set_option maxHeartbeats 1000000 in
theorem pleave_any (did num : Int) (g : Nat) (pc : Int) (rg : List Int) (s1 s2 s3 s4 : Value) (w : World) (h : Pr w g pc rg s1 s2 s3 s4) :
    Calls Tryz.prog 60 #[.pointer (some ⟨g, 0, none⟩), .int .i64 did, .int .i64 num] w fun e w' => e = .returned (.agg #[.int .i64 did, .int .i64 num]) ∧ Pr w' g ((pc + 4) % 4294967296) rg s1 s2 s3 s4 ∧ Turn (fun j => j = g) w w' := by
  have HN := hide (fun w h => pnext_any g pc rg s1 s2 s3 s4 w h)
  have h' := h.below ((Below.refl w.heap.size w).alloc (Nat.le_refl _) (.cells #[.int .i64 0, .int .i64 0] 65))
  have T0 : Turn (fun j => j = g) w (w.alloc (.cells #[.int .i64 0, .int .i64 0] 65)) := turn_alloc w _
  go_enter Tryz.func60, Tryz.ntmps60
  go_wp2_with fail
  refine (HN.out _ h').mono ?_
  rintro e w1 ⟨rfl, rfl⟩
  have hlt := h.blk.lt
  have hc := h'.pc
  have hfz := h'.blk.frozen 0
  obtain ⟨v, hv⟩ : ∃ v, v = (pc + 4) % 4294967296 := ⟨_, rfl⟩
  have v0 : 0 ≤ v ∧ v ≤ 4294967295 := by omega
  rw [← hv]
  have HV := hide hv
  have HP := hide ((h.setpc v v0).below ((Below.refl _ _).alloc (Nat.le_refl _) (.cells #[.int .i64 did, .int .i64 num] 65)))
  have HT := hide ((turn_setg w g 0 (.int .u32 v)).trans (turn_alloc _ (.cells #[.int .i64 did, .int .i64 num] 65)))
  clear hv
  go_wp2
  refine bodyPost_ret (v := .agg #[.int .i64 did, .int .i64 num]) (by simp [results, Tryz.results60, go_sem]) rfl ⟨rfl, ?_, HT.out⟩
  rw [← HV.out]
  exact HP.out

set_option maxHeartbeats 1000000 in
theorem pjump_any (op d a i : Int) (t : Bool) (g : Nat) (pc : Int) (rg : List Int) (s1 s2 s3 s4 : Value) (w : World) (h : Pr w g pc rg s1 s2 s3 s4) (i0 : 0 ≤ i) (i1 : i ≤ 65535) :
    Calls Tryz.prog 86 #[.pointer (some ⟨g, 0, none⟩), .agg #[.int .i64 op, .int .i64 d, .int .i64 a, .int .i64 i], .bool t] w fun e w' => e = .returned (.agg #[.int .i64 0, .int .i64 0]) ∧ Pr w' g (if t then (pc + 4 + 4 * wide i) % 4294967296 else (pc + 4) % 4294967296) rg s1 s2 s3 s4 ∧ Turn (fun j => j = g) w w' := by
  have HN := hide (fun w h => pnext_any g pc rg s1 s2 s3 s4 w h)
  have HG := hide (fun w h => ptarget_any op d a i g pc rg s1 s2 s3 s4 w h i0 i1)
  have hB0 : Below w.heap.size w ((w.alloc (.cells #[.int .i64 op, .int .i64 d, .int .i64 a, .int .i64 i] 53)).alloc (.cells #[.int .i64 0, .int .i64 0] 65)) := ((Below.refl _ _).alloc (Nat.le_refl _) _).alloc (by simp) _
  have h' := h.below hB0
  have ke := Blk.new (w.alloc (.cells #[.int .i64 op, .int .i64 d, .int .i64 a, .int .i64 i] 53)) #[.int .i64 0, .int .i64 0] 65
  simp only [World.size_alloc] at ke
  have hlt := h.blk.lt
  cases t
  · go_enter Tryz.func86, Tryz.ntmps86
    go_wp2_with fail
    refine (HN.out _ h').mono ?_
    rintro e w1 ⟨rfl, rfl⟩
    have hc := h'.pc
    have hfz := h'.blk.frozen 0
    obtain ⟨v, hv⟩ : ∃ v, v = (pc + 4) % 4294967296 := ⟨_, rfl⟩
    have v0 : 0 ≤ v ∧ v ≤ 4294967295 := by omega
    rw [← hv]
    have HV := hide hv
    have HP := hide ((h.setpc v v0).below (((Below.refl _ _).alloc (Nat.le_refl _) (.cells #[.int .i64 op, .int .i64 d, .int .i64 a, .int .i64 i] 53)).alloc (by simp) (.cells #[.int .i64 0, .int .i64 0] 65)))
    have HT := hide (((turn_setg w g 0 (.int .u32 v)).trans (turn_alloc _ (.cells #[.int .i64 op, .int .i64 d, .int .i64 a, .int .i64 i] 53))).trans (turn_alloc _ (.cells #[.int .i64 0, .int .i64 0] 65)))
    clear hv
    go_wp2
    refine bodyPost_ret (v := .agg #[.int .i64 0, .int .i64 0]) (by simp [results, Tryz.results86, go_sem]) rfl ⟨rfl, ?_, HT.out⟩
    rw [← HV.out]
    exact HP.out
  · go_enter Tryz.func86, Tryz.ntmps86
    go_wp2_with fail
    refine (HG.out _ h').mono ?_
    rintro e w1 ⟨rfl, hb1⟩
    have h1 := h'.below hb1
    have ke1 := ke.below hb1
    have hc := h1.pc
    have hfz := h1.blk.frozen 0
    have hB1 := hB0.trans (hb1.mono (by simp; omega))
    obtain ⟨v, hv⟩ : ∃ v, v = (pc + 4 + 4 * wide i) % 4294967296 := ⟨_, rfl⟩
    have v0 : 0 ≤ v ∧ v ≤ 4294967295 := by omega
    rw [← hv]
    have HV := hide hv
    have HP := hide (h1.setpc v v0)
    have HT : Hid (Turn (fun j => j = g) w (w1.setCell ⟨g, 0, none⟩ (.int .u32 v))) := hide ((turn_below hB1).trans (turn_setg w1 g 0 (.int .u32 v)))
    have ke2 := ke1.other ⟨g, 0, none⟩ (.int .u32 v) (by dsimp only; omega)
    have ke3 := (ke2.set 0 (.int .i64 0)).set 1 (.int .i64 0)
    obtain ⟨e1, e2, e3⟩ : (w1.setCell ⟨g, 0, none⟩ (.int .u32 v)).cell? ⟨w.heap.size + 1, 0, none⟩ = some (.int .i64 0) ∧ (w1.setCell ⟨g, 0, none⟩ (.int .u32 v)).cell? ⟨w.heap.size + 1, 1, none⟩ = some (.int .i64 0) ∧ ∀ j, (w1.setCell ⟨g, 0, none⟩ (.int .u32 v)).frozen? ⟨w.heap.size + 1, j, none⟩ = false := ⟨by rw [ke2.cell]; rfl, by rw [ke2.cell]; rfl, fun j => ke2.frozen j⟩
    have HT2 := hide ((HT.out.trans (turn_below (S := fun j => j = g) (Below.refl _ _))))
    have P2 : Hid (Pr (((w1.setCell ⟨g, 0, none⟩ (.int .u32 v)).setCell ⟨w.heap.size + 1, 0, none⟩ (.int .i64 0)).setCell ⟨w.heap.size + 1, 1, none⟩ (.int .i64 0)) g v rg s1 s2 s3 s4) :=
      hide ⟨(HP.out.blk.other _ _ (by dsimp only; omega)).other _ _ (by dsimp only; omega), HP.out.len, HP.out.pcw, HP.out.rgw⟩
    have T2 : Hid (Turn (fun j => j = g) w (((w1.setCell ⟨g, 0, none⟩ (.int .u32 v)).setCell ⟨w.heap.size + 1, 0, none⟩ (.int .i64 0)).setCell ⟨w.heap.size + 1, 1, none⟩ (.int .i64 0))) :=
      hide ⟨HT.out.os, HT.out.tape, HT.out.output, by rw [size_setCell, size_setCell]; exact HT.out.size, fun k hk hn => by rw [heap_setCell_other _ _ _ _ (by dsimp only; omega), heap_setCell_other _ _ _ _ (by dsimp only; omega)]; exact HT.out.block k hk hn⟩
    have ke4 : Blk (((w1.setCell ⟨g, 0, none⟩ (.int .u32 v)).setCell ⟨w.heap.size + 1, 0, none⟩ (.int .i64 0)).setCell ⟨w.heap.size + 1, 1, none⟩ (.int .i64 0)) (w.heap.size + 1) #[.int .i64 0, .int .i64 0] 65 := by simpa using ke3
    have c0 : (((w1.setCell ⟨g, 0, none⟩ (.int .u32 v)).setCell ⟨w.heap.size + 1, 0, none⟩ (.int .i64 0)).setCell ⟨w.heap.size + 1, 1, none⟩ (.int .i64 0)).cell? ⟨w.heap.size + 1, 0, none⟩ = some (.int .i64 0) := by rw [ke4.cell]; rfl
    have c1 : (((w1.setCell ⟨g, 0, none⟩ (.int .u32 v)).setCell ⟨w.heap.size + 1, 0, none⟩ (.int .i64 0)).setCell ⟨w.heap.size + 1, 1, none⟩ (.int .i64 0)).cell? ⟨w.heap.size + 1, 1, none⟩ = some (.int .i64 0) := by rw [ke4.cell]; rfl
    clear hv ke1 ke2 ke3 ke4
    go_wp2
    refine bodyPost_ret (v := .agg #[.int .i64 0, .int .i64 0]) (by simp [results, Tryz.results86, go_sem, c0, c1]) rfl ⟨rfl, ?_, T2.out⟩
    rw [← HV.out]
    exact P2.out
end Go.Proofs.YtaillnegkfagfacGreat

namespace Go.Proofs.YtaillnegkfagfacGreat
open Go.RowKit
set_option linter.unusedVariables false
set_option linter.unusedSimpArgs false
set_option maxRecDepth 100000

set_option maxHeartbeats 1000000 in
theorem pput_any (op d a i v : Int) (g : Nat) (pc : Int) (rg : List Int) (s1 s2 s3 s4 : Value) (w : World) (h : Pr w g pc rg s1 s2 s3 s4) (d0 : 0 ≤ d) (d1 : d ≤ 7) (v0 : 0 ≤ v) (v1 : v ≤ 4294967295) :
    Calls Tryz.prog 62 #[.pointer (some ⟨g, 0, none⟩), .agg #[.int .i64 op, .int .i64 d, .int .i64 a, .int .i64 i], .int .u32 v] w fun e w' => e = .returned (.agg #[.int .i64 0, .int .i64 0]) ∧ Pr w' g ((pc + 4) % 4294967296) (rg.set d.toNat v) s1 s2 s3 s4 ∧ Turn (fun j => j = g) w w' := by
  have hB0 : Below w.heap.size w ((w.alloc (.cells #[.int .i64 op, .int .i64 d, .int .i64 a, .int .i64 i] 53)).alloc (.cells #[.int .i64 0, .int .i64 0] 65)) := ((Below.refl _ _).alloc (Nat.le_refl _) _).alloc (by simp) _
  have h' := h.below hB0
  have hlt := h.blk.lt
  have hr := h'.reg d.toNat (by omega)
  have hfz := h'.blk.frozen
  have H2 := h.setreg d.toNat (by omega) v ⟨v0, v1⟩
  have HN := hide (fun w h => pnext_any g pc (rg.set d.toNat v) s1 s2 s3 s4 w h)
  go_enter Tryz.func62, Tryz.ntmps62
  go_wp2
  go_region
  have H3 := H2.below (((Below.refl _ _).alloc (Nat.le_refl _) (.cells #[.int .i64 op, .int .i64 d, .int .i64 a, .int .i64 i] 53)).alloc (by simp) (.cells #[.int .i64 0, .int .i64 0] 65))
  go_wp2_with fail
  refine (HN.out _ ?_).mono ?_
  exact ⟨H3.blk, H3.len, H3.pcw, H3.rgw⟩
  rintro e w1 ⟨rfl, rfl⟩
  have hc : (((w.setCell ⟨g, 1 + d.toNat, none⟩ (.int .u32 v)).alloc (.cells #[.int .i64 op, .int .i64 d, .int .i64 a, .int .i64 i] 53)).alloc (.cells #[.int .i64 0, .int .i64 0] 65)).cell? ⟨g, 0, none⟩ = some (.int .u32 pc) := H3.pc
  have hc2 := H2.pc
  have hf2 := H2.blk.frozen
  obtain ⟨u, hu⟩ : ∃ u, u = (pc + 4) % 4294967296 := ⟨_, rfl⟩
  have u0 : 0 ≤ u ∧ u ≤ 4294967295 := by omega
  rw [← hu]
  have HU := hide hu
  have HP := hide ((H2.setpc u u0).below (((Below.refl _ _).alloc (Nat.le_refl _) (.cells #[.int .i64 op, .int .i64 d, .int .i64 a, .int .i64 i] 53)).alloc (by simp) (.cells #[.int .i64 0, .int .i64 0] 65)))
  have HT := hide ((((turn_setg w g (1 + d.toNat) (.int .u32 v)).trans (turn_setg _ g 0 (.int .u32 u))).trans (turn_alloc _ (.cells #[.int .i64 op, .int .i64 d, .int .i64 a, .int .i64 i] 53))).trans (turn_alloc _ (.cells #[.int .i64 0, .int .i64 0] 65)))
  clear hu
  go_wp2
  refine bodyPost_ret (v := .agg #[.int .i64 0, .int .i64 0]) (by simp [results, Tryz.results62, go_sem]) rfl ⟨rfl, ?_, ⟨HT.out.os, HT.out.tape, HT.out.output, HT.out.size, HT.out.block⟩⟩
  rw [← HU.out]
  exact ⟨HP.out.blk, HP.out.len, HP.out.pcw, HP.out.rgw⟩
end Go.Proofs.YtaillnegkfagfacGreat

namespace Go.Proofs.YtaillnegkfagfacGreat
open Go.RowKit
set_option linter.unusedVariables false

theorem own3_below {w w' : World} {base : Nat} {v1 v2 v3 : Value} {x1 x2 x3 : List Int} (h : Own3 w base v1 v2 v3 x1 x2 x3) (hb : Below w.heap.size w w') : Own3 w' base v1 v2 v3 x1 x2 x3 :=
  ⟨h.1.below hb, h.2.1.below hb, h.2.2.1.below hb, h.2.2.2⟩
theorem own3_alloc {w : World} {base : Nat} {v1 v2 v3 : Value} {x1 x2 x3 : List Int} (h : Own3 w base v1 v2 v3 x1 x2 x3) (o : Obj) : Own3 (w.alloc o) base v1 v2 v3 x1 x2 x3 :=
  own3_below h ((Below.refl _ _).alloc (Nat.le_refl _) o)
theorem own3_other {w : World} {base : Nat} {v1 v2 v3 : Value} {x1 x2 x3 : List Int} (h : Own3 w base v1 v2 v3 x1 x2 x3) (a : Addr) (u : Value) (ha : a.block < base) : Own3 (w.setCell a u) base v1 v2 v3 x1 x2 x3 :=
  ⟨h.1.other a u ha, h.2.1.other a u ha, h.2.2.1.other a u ha, h.2.2.2⟩
theorem own3_mono {w : World} {base base' : Nat} {v1 v2 v3 : Value} {x1 x2 x3 : List Int} (h : Own3 w base v1 v2 v3 x1 x2 x3) (hb : base' ≤ base) : Own3 w base' v1 v2 v3 x1 x2 x3 :=
  ⟨h.1.mono hb, h.2.1.mono hb, h.2.2.1.mono hb, h.2.2.2⟩
theorem ob_far {w : World} {base g : Nat} {v : Value} {zs : List Int} (h : OB w base v zs) (a : Addr) (u : Value) (ha : v.ownBlock ≠ some a.block) : OB (w.setCell a u) base v zs := by
  refine ⟨?_, h.2⟩
  obtain ⟨hl, h0 | ⟨g', cap, cur, rfl, hg, hh, h1, h2, h3, h4⟩⟩ := h.1
  · exact ⟨hl, .inl h0⟩
  · exact ⟨hl, .inr ⟨g', cap, cur, rfl, hg, Blk.other (w := w) hh a u (by intro e; apply ha; rw [← e]; rfl), h1, h2, h3, h4⟩⟩
theorem grown_blk {w w' : World} {row : Option Nat} {k : Nat} {cs : Array Value} {t : TypeId} (hg : w.grownBy w' row) (h : Blk w k cs t) (hk : some k ≠ row) : Blk w' k cs t := by
  have := hg.block k h.lt hk
  unfold Blk at *; rw [this]; exact h
theorem grown_ob {w w' : World} {row : Option Nat} {base : Nat} {v : Value} {zs : List Int} (hg : w.grownBy w' row) (h : OB w base v zs) (hk : v.ownBlock = none ∨ v.ownBlock ≠ row) : OB w' base v zs :=
  ⟨h.1.kept hg hk, h.2⟩

/-- WHAT Write ANSWERS. -/
def wrm (n1 n2 n3 : Nat) (x1 x2 x3 : List Int) (p s v : Int) : List Int × List Int × List Int × Int :=
  if mok n1 n2 n3 = true ∧ wd s = true then
    if (p.tmod s != 0) = true then (x1, x2, x3, 1)
    else if p = 131072 then (if 5000 ≤ n3 then (x1, x2, x3, 4) else (x1, x2, x3 ++ [v % 256], 0))
      else if ins p s 0 n1 = true then (x1, x2, x3, 3)
      else if ins p s 65536 n2 = true then (x1, put x2 (p - 65536).toNat v s.toNat, x3, 0) else (x1, x2, x3, 2)
  else (x1, x2, x3, 2)

def WrPost (w : World) (r : List Int × List Int × List Int × Int) (e : Ending) (w' : World) : Prop :=
  ∃ a1 m1 d1 a2 m2 d2 a3 m3 d3, e = .returned (.tuple #[.agg #[.slice a1 m1 d1, .slice a2 m2 d2, .slice a3 m3 d3], .int .i64 r.2.2.2]) ∧ Own3 w' w.heap.size (.slice a1 m1 d1) (.slice a2 m2 d2) (.slice a3 m3 d3) r.1 r.2.1 r.2.2.1 ∧ Below w.heap.size w w'

/-- THE WORLD AS Write HOLDS IT: its box, its result's block, its own copy at 'go', and the bytes. -/
structure Hold (w W : World) (base go : Nat) (bx : Array Value) (v1 v2 v3 : Value) (x1 x2 x3 : List Int) : Prop where
  below : Below w.heap.size w W
  big : w.heap.size + 2 ≤ base
  gobig : base ≤ go
  box : Blk W w.heap.size bx 27
  res : Blk W (w.heap.size + 1) #[.slice none 0 0, .slice none 0 0, .slice none 0 0] 27
  out : Blk W go #[v1, v2, v3] 27
  own : Own3 W base v1 v2 v3 x1 x2 x3
  far : ∀ v, v = v1 ∨ v = v2 ∨ v = v3 → v.ownBlock ≠ some go
theorem Hold.step {w W W' : World} {base go : Nat} {bx : Array Value} {v1 v2 v3 : Value} {x1 x2 x3 : List Int} (h : Hold w W base go bx v1 v2 v3 x1 x2 x3) (hb : Below W.heap.size W W') : Hold w W' base go bx v1 v2 v3 x1 x2 x3 :=
  ⟨h.below.trans (hb.mono h.below.size), h.big, h.gobig, h.box.below hb, h.res.below hb, h.out.below hb, own3_below h.own hb, h.far⟩

def resW (W : World) (g : Nat) (v1 v2 v3 : Value) : World := ((W.setCell ⟨g, 0, none⟩ v1).setCell ⟨g, 1, none⟩ v2).setCell ⟨g, 2, none⟩ v3
theorem Hold.done {w W : World} {base go : Nat} {bx : Array Value} {v1 v2 v3 : Value} {x1 x2 x3 : List Int} (h : Hold w W base go bx v1 v2 v3 x1 x2 x3) :
    Own3 (resW W (w.heap.size + 1) v1 v2 v3) w.heap.size v1 v2 v3 x1 x2 x3 ∧ Below w.heap.size w (resW W (w.heap.size + 1) v1 v2 v3) := by
  have hb := h.big
  exact ⟨own3_mono (own3_other (own3_other (own3_other h.own _ _ (by dsimp only; omega)) _ _ (by dsimp only; omega)) _ _ (by dsimp only; omega)) (by omega),
    ((h.below.setCell (by dsimp only; omega) _).setCell (by dsimp only; omega) _).setCell (by dsimp only; omega) _⟩
theorem turn_ob {S : Nat → Prop} {base : Nat} {w w' : World} {v : Value} {zs : List Int} (ht : Turn S w w') (h : OB w base v zs) (hk : ∀ k, v.ownBlock = some k → ¬ S k) : OB w' base v zs := by
  refine ⟨?_, h.2⟩
  obtain ⟨hl, h0 | ⟨g', cap, cur, rfl, hg, hh, h1, h2, h3, h4⟩⟩ := h.1
  · exact ⟨hl, .inl h0⟩
  · exact ⟨hl, .inr ⟨g', cap, cur, rfl, hg, turn_blk ht hh (hk g' rfl), h1, h2, h3, h4⟩⟩
end Go.Proofs.YtaillnegkfagfacGreat
