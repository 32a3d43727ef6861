import Derived.Test.YtngdgogjlpjjpaeGreatGa01
import Derived.Test.YtngdgogjlpjjpaeGreatGa00
import Derived.Deep.RegionHeld3
namespace Go.Proofs.YtngdgogjlpjjpaeGreat
open Go.RowKit
set_option linter.unusedVariables false

/-- A SLICE OF BYTES OF THE CALL's OWN, from block 'base' on. -/
def OB (w : World) (base : Nat) (v : Value) (zs : List Int) : Prop := w.ownsRow base 5 1 v zs.length (zs.map (Value.int .u8)) ∧ ∀ z ∈ zs, 0 ≤ z ∧ z ≤ 255

theorem bs_news {w : World} {b off n cap : Nat} {zs : List Int} (h : BS w (some ⟨b, off, none⟩) n cap zs) : ∀ j u, (zs.map (Value.int .u8))[j]? = some u → w.cell? ((⟨b, off, none⟩ : Addr).add j) = some u := by
  intro j u hj
  have hl := h.1
  have hjl : j < n := by
    by_cases e : j < n
    · exact e
    · rw [List.getElem?_eq_none (by simp; omega)] at hj; simp at hj
  rw [addr_add, h.at j hjl]
  rw [← hj]
  simp [List.getD_eq_getElem?_getD, show j < zs.length by omega]
theorem own_empty (w : World) : (w.alloc (.cells #[] 5)).ownsRow w.heap.size 5 1 (.slice (some ⟨w.heap.size, 0, none⟩) 0 0) 0 [] :=
  ⟨rfl, .inr ⟨w.heap.size, 0, #[], rfl, Nat.le_refl _, heap_alloc_new w _, Nat.le_refl _, Nat.zero_le _, rfl, rfl⟩⟩
theorem own_shape {w : World} {base n : Nat} {t : TypeId} {v : Value} {xs : List Value} (h : w.ownsRow base t 1 v n xs) : ∃ a cap, v = .slice a n cap := by
  obtain ⟨_, ⟨rfl, rfl⟩ | ⟨g, cap, cur, rfl, _⟩⟩ := h
  · exact ⟨_, _, rfl⟩
  · exact ⟨_, _, rfl⟩
theorem below_grown' {B : Nat} {a w w' : World} {k : Nat} (h : Below B a w) (hg : w.grownBy w' (some k)) (hB : B ≤ w.heap.size) (hk : B ≤ k) : Below B a w' := h.grown hg hB (fun j hj => by cases hj; exact hk)

set_option maxHeartbeats 1000000 in
theorem l1Bytes_any (b off n cap : Nat) (zs : List Int) (w : World) (h : BS w (some ⟨b, off, none⟩) n cap zs) (hn : n ≤ 1048576) :
    Calls Tryz.prog 213 #[.slice (some ⟨b, off, none⟩) n cap] w fun e w' => ∃ a cap', e = .returned (.slice a n cap') ∧ OB w' w.heap.size (.slice a n cap') zs ∧ Below w.heap.size w w' := by
  obtain ⟨i0, hi, hz0, hz1, hz2⟩ := info_parts info8
  have hl := h.1
  have h' := h.below ((Below.refl w.heap.size w).alloc (Nat.le_refl _) (.cells #[] 5))
  have hnews := hide (bs_news h')
  have hone := hide (ints_oneCell .u8 zs)
  have hown := hide (own_empty w)
  have hlen := hide (show (zs.map (Value.int .u8)).length = n * 1 by simp; omega)
  go_enter Tryz.func213, Tryz.ntmps213
  go_wp2_with (at_builtin; refine wpList_append_own _ rfl _ _ 41 rfl w.heap.size 5 i0 (.int .u8 0) 1 1 Tryz.underlying41 hi hz0 hz1 hz2 rfl (by decide) _ 0 [] rfl hown.out ⟨b, off, none⟩ n cap (zs.map (Value.int .u8)) rfl hlen.out hnews.out hone.out (by unfold maxLen; omega) (by omega) (by simp) ?_; intro v' w1 hown1 hgr1 _)
  simp only [Nat.zero_add, List.nil_append] at hown1
  have hex := own_shape hown1
  go_ret
  obtain ⟨a', cap', he⟩ := hex
  refine ⟨a', cap', by rw [← he]; rfl, ⟨?_, h.2.2.1⟩, ?_⟩
  · rw [hl, ← he]
    exact hown1
  · exact below_grown' ((Below.refl w.heap.size w).alloc (Nat.le_refl _) _) hgr1 (by simp) (Nat.le_refl _)

set_option maxHeartbeats 1000000 in
theorem clone_any (b off n cap : Nat) (zs : List Int) (w : World) (h : BS w (some ⟨b, off, none⟩) n cap zs) (hn : n ≤ 1048576) :
    Calls Tryz.prog 258 #[.slice (some ⟨b, off, none⟩) n cap] w fun e w' => ∃ a cap', e = .returned (.slice a n cap') ∧ OB w' w.heap.size (.slice a n cap') zs ∧ Below w.heap.size w w' := by
  obtain ⟨i0, hi, hz0, hz1, hz2⟩ := info_parts info8
  have hl := h.1
  have h' := h.below ((Below.refl w.heap.size w).alloc (Nat.le_refl _) (.cells #[] 5))
  have hnews := hide (bs_news h')
  have hone := hide (ints_oneCell .u8 zs)
  have hown := hide (own_empty w)
  have hlen := hide (show (zs.map (Value.int .u8)).length = n * 1 by simp; omega)
  have hnil := fun (w : World) => Lib.run_eql_slice_nil (P := Tryz.prog) w 41 5 (some ⟨b, off, none⟩) n cap 0 0 Tryz.underlying41
  go_enter Tryz.func258, Tryz.ntmps258
  go_wp2_with (at_builtin; refine wpList_append_own _ rfl _ _ 41 rfl w.heap.size 5 i0 (.int .u8 0) 1 1 Tryz.underlying41 hi hz0 hz1 hz2 rfl (by decide) _ 0 [] rfl hown.out ⟨b, off, none⟩ n cap (zs.map (Value.int .u8)) rfl hlen.out hnews.out hone.out (by unfold maxLen; omega) (by omega) (by simp) ?_; intro v' w1 hown1 hgr1 _)
  simp only [Nat.zero_add, List.nil_append] at hown1
  have hex := own_shape hown1
  go_ret
  obtain ⟨a', cap', he⟩ := hex
  refine ⟨a', cap', by rw [← he]; rfl, ⟨?_, h.2.2.1⟩, ?_⟩
  · rw [hl, ← he]
    exact hown1
  · exact below_grown' ((Below.refl w.heap.size w).alloc (Nat.le_refl _) _) hgr1 (by simp) (Nat.le_refl _)
end Go.Proofs.YtngdgogjlpjjpaeGreat

namespace Go.Proofs.YtngdgogjlpjjpaeGreat
open Go.RowKit
set_option linter.unusedVariables false

/-- THREE SLICES OF BYTES OF THE CALL's OWN, apart from each other. -/
def Own3 (w : World) (base : Nat) (v1 v2 v3 : Value) (x1 x2 x3 : List Int) : Prop :=
  OB w base v1 x1 ∧ OB w base v2 x2 ∧ OB w base v3 x3 ∧ (∀ k j, v1.ownBlock = some k → v2.ownBlock = some j → k < j) ∧ (∀ k j, v1.ownBlock = some k → v3.ownBlock = some j → k < j) ∧ ∀ k j, v2.ownBlock = some k → v3.ownBlock = some j → k < j

theorem OB.below {w w' : World} {base : Nat} {v : Value} {zs : List Int} (h : OB w base v zs) (hb : Below w.heap.size w w') : OB w' base v zs := by
  refine ⟨?_, h.2⟩
  obtain ⟨hl, h0 | ⟨g, cap, cur, hv, hg, hh, h1, h2, h3, h4⟩⟩ := h.1
  · exact ⟨hl, .inl h0⟩
  · refine ⟨hl, .inr ⟨g, cap, cur, hv, hg, ?_, h1, h2, h3, h4⟩⟩
    exact Blk.below (w := w) hh hb
theorem OB.mono {w : World} {base base' : Nat} {v : Value} {zs : List Int} (h : OB w base v zs) (hb : base' ≤ base) : OB w base' v zs := by
  refine ⟨?_, h.2⟩
  obtain ⟨hl, h0 | ⟨g, cap, cur, hv, hg, hh, h1, h2, h3, h4⟩⟩ := h.1
  · exact ⟨hl, .inl h0⟩
  · exact ⟨hl, .inr ⟨g, cap, cur, hv, by omega, hh, h1, h2, h3, h4⟩⟩
theorem OB.other {w : World} {base : Nat} {v : Value} {zs : List Int} (h : OB w base v zs) (a : Addr) (u : Value) (ha : a.block < base) : OB (w.setCell a u) base v zs := by
  refine ⟨?_, h.2⟩
  obtain ⟨hl, h0 | ⟨g, cap, cur, hv, hg, hh, h1, h2, h3, h4⟩⟩ := h.1
  · exact ⟨hl, .inl h0⟩
  · exact ⟨hl, .inr ⟨g, cap, cur, hv, hg, Blk.other (w := w) hh a u (by omega), h1, h2, h3, h4⟩⟩
theorem OB.lt {w : World} {base : Nat} {v : Value} {zs : List Int} (h : OB w base v zs) : ∀ k, v.ownBlock = some k → base ≤ k ∧ k < w.heap.size := h.1.lt
theorem OB.bs {w : World} {base n cap : Nat} {a : Option Addr} {zs : List Int} (h : OB w base (.slice a n cap) zs) : BS w a n cap zs := by
  obtain ⟨hl, ⟨h0, h0'⟩ | ⟨g, cap', cur, hv, hg, hh, h1, h2, h3, h4⟩⟩ := h.1
  · simp at h0
    obtain ⟨rfl, rfl, rfl⟩ := h0
    exact ⟨h0', Nat.zero_le _, h.2, fun hn => absurd rfl hn, Nat.le_refl _⟩
  · simp at hv
    obtain ⟨rfl, rfl, rfl⟩ := hv
    refine ⟨rfl, by omega, h.2, fun hn => ⟨g, 0, rfl, fun i hi => ?_⟩, h1⟩
    rw [Nat.zero_add, Blk.cell (w := w) hh]
    have : cur.toList[i]? = (zs.map (Value.int .u8))[i]? := by
      rw [← h4, List.getElem?_take, if_pos (by omega)]
    rw [Array.getElem?_toList] at this
    rw [this]
    simp [List.getD_eq_getElem?_getD, hi]

end Go.Proofs.YtngdgogjlpjjpaeGreat

namespace Go.Proofs.YtngdgogjlpjjpaeGreat
open Go.RowKit
set_option linter.unusedVariables false

theorem mod_word (v : Int) : ((v.tmod 4294967296) + 4294967296).tmod 4294967296 = v % 4294967296 := by
  have h := Int.tmod_eq_emod (a := v) (b := 4294967296)
  have hlt : -4294967296 < v.tmod 4294967296 := by
    have := Int.lt_tmod_of_pos v (show (0:Int) < 4294967296 by omega)
    exact this
  rw [Int.tmod_eq_emod_of_nonneg (by omega)]
  split at h <;> omega

set_option maxHeartbeats 400000 in
theorem l1Mod_word (v : Int) (w : World) (hv : -9223372036854775808 ≤ v ∧ v ≤ 9223372036854775807) :
    Calls Tryz.prog 177 #[.int .i64 v, .int .i64 4294967296] w fun e w' => e = .returned (.int .i64 (v % 4294967296)) ∧ w = w' := by
  have hlt : -4294967296 < v.tmod 4294967296 := Int.lt_tmod_of_pos v (by omega)
  have hgt : v.tmod 4294967296 < 4294967296 := Int.tmod_lt_of_pos v (by omega)
  have HM := hide (mod_word v)
  go_enter Tryz.func177, Tryz.ntmps177
  go_wp2
  go_ret
  exact ⟨ret_int (by have := HM.out; rwa [Int.tmod_eq_emod_of_nonneg (by omega)] at this), rfl⟩

set_option maxHeartbeats 400000 in
theorem l1Word_any (v : Int) (w : World) (hv : -9223372036854775808 ≤ v ∧ v ≤ 9223372036854775807) :
    Calls Tryz.prog 84 #[.int .i64 v] w fun e w' => e = .returned (.int .i64 (v % 4294967296)) ∧ w = w' := by
  go_enter Tryz.func84, Tryz.ntmps84
  go_wp2_with fail
  refine (l1Mod_word v _ hv).mono ?_
  rintro e w1 ⟨rfl, rfl⟩
  go_wp2
  go_ret
  exact ⟨rfl, rfl⟩

/-- BYTE j OF A NUMBER. -/
def bt (v : Int) (j : Nat) : Int := v / (256:Int)^j % 256
/-- THE WORLD WITH THE FIRST j BYTES OF v AT k. -/
def putW (w : World) (g k : Nat) (v : Int) : Nat → World
  | 0 => w
  | j + 1 => (putW w g k v j).setCell ⟨g, k + j, none⟩ (.int .u8 (bt v j))
def put (zs : List Int) (k : Nat) (v : Int) : Nat → List Int
  | 0 => zs
  | j + 1 => (put zs k v j).set (k + j) (bt v j)

theorem bt_range (v : Int) (j : Nat) : 0 ≤ bt v j ∧ bt v j ≤ 255 := by unfold bt; omega
theorem bt_succ (v : Int) (j : Nat) : v / (256:Int)^j / 256 = v / (256:Int)^(j+1) := by
  rw [Int.pow_succ, Int.ediv_ediv_of_nonneg (Int.le_of_lt (Int.pow_pos (by omega)))]
theorem put_len (zs : List Int) (k : Nat) (v : Int) : ∀ j, (put zs k v j).length = zs.length
  | 0 => rfl
  | j + 1 => by rw [put, List.length_set, put_len zs k v j]

/-- CELLS OF A BLOCK ALL OF WHICH ARE THERE AND ARE NOT FROZEN. -/
def Room (w : World) (g n : Nat) : Prop := ∃ cur, Blk w g cur 5 ∧ n ≤ cur.size
theorem Room.cell {w : World} {g n : Nat} (h : Room w g n) (i : Nat) (hi : i < n) : ∃ u, w.cell? ⟨g, i, none⟩ = some u := by
  obtain ⟨cur, hb, hn⟩ := h
  rw [hb.cell]
  exact ⟨cur[i], by simp⟩
theorem Room.frozen {w : World} {g n : Nat} (h : Room w g n) (i : Nat) : w.frozen? ⟨g, i, none⟩ = false := by
  obtain ⟨cur, hb, hn⟩ := h
  exact hb.frozen i
theorem Room.set {w : World} {g n : Nat} (h : Room w g n) (i : Nat) (u : Value) : Room (w.setCell ⟨g, i, none⟩ u) g n := by
  obtain ⟨cur, hb, hn⟩ := h
  exact ⟨_, hb.set i u, by simpa using hn⟩
theorem Room.put {w : World} {g n : Nat} (h : Room w g n) (k : Nat) (v : Int) : ∀ j, Room (putW w g k v j) g n
  | 0 => h
  | j + 1 => (Room.put h k v j).set (k + j) _

set_option maxHeartbeats 1000000 in
theorem l1Put_any (g n cap k : Nat) (s v : Int) (w : World) (h : Room w g n) (hn : n ≤ 16384) (hs1 : 1 ≤ s) (hs : s ≤ 4) (hk : (k : Int) + s ≤ n) (hv0 : 0 ≤ v) (hv1 : v ≤ 4294967295) :
    Calls Tryz.prog 83 #[.slice (some ⟨g, 0, none⟩) n cap, .int .i64 k, .int .i64 s, .int .i64 v] w fun e w' => e = .returned (.tuple #[]) ∧ w' = putW w g k v s.toNat := by
  go_enter Tryz.func83, Tryz.ntmps83
  go_wp2
  go_loopw [3, 8] (fun x i wr => ∃ j : Nat, (j : Int) ≤ s ∧ i = .int .i64 j ∧ x = .int .i64 (v / (256:Int)^j) ∧ wr = putW w g k v j) (fun _ i _ => s.toNat - (intOf i).toNat)
  case atStart => exact ⟨0, by omega, rfl, by simp, rfl⟩
  case round =>
    obtain ⟨j, hj, rfl, rfl, rfl⟩ := hrel
    by_cases hlt : (j : Int) < s
    · have hR := h.put k v j
      obtain ⟨u, hu⟩ := hR.cell (k + j) (by omega)
      have hf := hR.frozen (k + j)
      have hp : 0 < (256:Int)^j := Int.pow_pos (by omega)
      have hq0 : 0 ≤ v / (256:Int)^j := Int.ediv_nonneg hv0 (by omega)
      have hq1 : v / (256:Int)^j ≤ v := Int.ediv_le_self _ hv0
      have HS := hide (bt_succ v j)
      have hW : putW w g k v (j + 1) = (putW w g k v j).setCell ⟨g, k + j, none⟩ (.int .u8 (v / (256:Int)^j % 256)) := rfl
      have HW := hide hW
      clear hW hR hp
      generalize putW w g k v j = W at *
      generalize v / (256:Int)^j = q at *
      go_wp2
      go_roundw
      case rel => exact ⟨j + 1, by omega, by go_num, by rw [HS.out], HW.out.symm⟩
      case measure => simp [intOf]; omega
    · have hjs : s.toNat = j := by omega
      have HJ := hide hjs
      clear hjs
      generalize v / (256:Int)^j = q at *
      go_wp2
      go_end0
      exact ⟨rfl, by rw [HJ.out]⟩

/-- the bytes as the program writes them: the highest first -/
def putD4 (w : World) (g k : Nat) (v : Int) : World :=
  (((w.setCell ⟨g, k + 3, none⟩ (.int .u8 (bt v 3))).setCell ⟨g, k + 2, none⟩ (.int .u8 (bt v 2))).setCell ⟨g, k + 1, none⟩ (.int .u8 (bt v 1))).setCell ⟨g, k, none⟩ (.int .u8 (bt v 0))
def putD2 (w : World) (g k : Nat) (v : Int) : World := (w.setCell ⟨g, k + 1, none⟩ (.int .u8 (bt v 1))).setCell ⟨g, k, none⟩ (.int .u8 (bt v 0))
def putD1 (w : World) (g k : Nat) (v : Int) : World := w.setCell ⟨g, k, none⟩ (.int .u8 (bt v 0))

theorem bt0 (v : Int) : bt v 0 = v % 256 := by unfold bt; simp
theorem bt1 (v : Int) : bt v 1 = v / 256 % 256 := by unfold bt; simp
theorem bt2 (v : Int) : bt v 2 = v / 65536 % 256 := by unfold bt; rw [show (256:Int)^2 = 65536 from rfl]
theorem bt3 (v : Int) : bt v 3 = v / 16777216 % 256 := by unfold bt; rw [show (256:Int)^3 = 16777216 from rfl]

set_option maxHeartbeats 1000000 in
theorem putBytes_4 (g n cap k : Nat) (v : Int) (w : World) (h : Room w g (k + 4)) (hn : 4 ≤ n) (hv : -9223372036854775808 ≤ v ∧ v ≤ 9223372036854775807) :
    Calls Tryz.prog 179 #[.slice (some ⟨g, k, none⟩) n cap, .int .i64 4, .int .i64 v] w fun e w' => e = .returned (.tuple #[]) ∧ w' = putD4 w g k v := by
  obtain ⟨u0, c0⟩ := h.cell k (by omega)
  obtain ⟨u1, c1⟩ := h.cell (k + 1) (by omega)
  obtain ⟨u2, c2⟩ := h.cell (k + 2) (by omega)
  obtain ⟨u3, c3⟩ := h.cell (k + 3) (by omega)
  have hf : ∀ i, w.frozen? ⟨g, i, none⟩ = false := h.frozen
  have hl : (3 : Int) < (n : Int) := by omega
  obtain ⟨hv0, hv1⟩ := hv
  have HP := hide (show putD4 w g k v = putD4 w g k v from rfl)
  unfold putD4
  rw [bt3, bt2, bt1, bt0]
  go_enter Tryz.func179, Tryz.ntmps179
  go_wp2
  go_end0
  exact ⟨rfl, rfl⟩

set_option maxHeartbeats 1000000 in
theorem putBytes_2 (g n cap k : Nat) (v : Int) (w : World) (h : Room w g (k + 2)) (hn : 2 ≤ n) (hv : -9223372036854775808 ≤ v ∧ v ≤ 9223372036854775807) :
    Calls Tryz.prog 179 #[.slice (some ⟨g, k, none⟩) n cap, .int .i64 2, .int .i64 v] w fun e w' => e = .returned (.tuple #[]) ∧ w' = putD2 w g k v := by
  obtain ⟨u0, c0⟩ := h.cell k (by omega)
  obtain ⟨u1, c1⟩ := h.cell (k + 1) (by omega)
  have hf : ∀ i, w.frozen? ⟨g, i, none⟩ = false := h.frozen
  have hl : (1 : Int) < (n : Int) := by omega
  obtain ⟨hv0, hv1⟩ := hv
  have HP := hide (show putD2 w g k v = putD2 w g k v from rfl)
  unfold putD2
  rw [bt1, bt0]
  go_enter Tryz.func179, Tryz.ntmps179
  go_wp2
  go_end0
  exact ⟨rfl, rfl⟩

set_option maxHeartbeats 1000000 in
theorem putBytes_1 (g n cap k : Nat) (v : Int) (w : World) (h : Room w g (k + 1)) (hn : 1 ≤ n) (hv : -9223372036854775808 ≤ v ∧ v ≤ 9223372036854775807) :
    Calls Tryz.prog 179 #[.slice (some ⟨g, k, none⟩) n cap, .int .i64 1, .int .i64 v] w fun e w' => e = .returned (.tuple #[]) ∧ w' = putD1 w g k v := by
  obtain ⟨u0, c0⟩ := h.cell k (by omega)
  have hf : ∀ i, w.frozen? ⟨g, i, none⟩ = false := h.frozen
  have hl : (0 : Int) < (n : Int) := by omega
  obtain ⟨hv0, hv1⟩ := hv
  have HP := hide (show putD1 w g k v = putD1 w g k v from rfl)
  unfold putD1
  rw [bt0]
  go_enter Tryz.func179, Tryz.ntmps179
  go_wp2
  go_end0
  exact ⟨rfl, rfl⟩

theorem bt_word (v : Int) : bt (v % 4294967296) 0 = bt v 0 ∧ bt (v % 4294967296) 1 = bt v 1 ∧ bt (v % 4294967296) 2 = bt v 2 ∧ bt (v % 4294967296) 3 = bt v 3 := by
  rw [bt0, bt1, bt2, bt3, bt0, bt1, bt2, bt3]
  omega

theorem put_desc4 (zs : List Int) (k : Nat) (v : Int) : put zs k v 4 = (((zs.set (k + 3) (bt v 3)).set (k + 2) (bt v 2)).set (k + 1) (bt v 1)).set k (bt v 0) := by
  simp only [put, Nat.add_zero]
  rw [List.set_comm _ _ (show k ≠ k + 1 by omega), List.set_comm _ _ (show k ≠ k + 2 by omega), List.set_comm _ _ (show k ≠ k + 3 by omega)]
  congr 1
  rw [List.set_comm _ _ (show k + 1 ≠ k + 2 by omega), List.set_comm _ _ (show k + 1 ≠ k + 3 by omega)]
  congr 1
  rw [List.set_comm _ _ (show k + 2 ≠ k + 3 by omega)]
theorem put_desc2 (zs : List Int) (k : Nat) (v : Int) : put zs k v 2 = (zs.set (k + 1) (bt v 1)).set k (bt v 0) := by
  simp only [put, Nat.add_zero]
  rw [List.set_comm _ _ (show k ≠ k + 1 by omega)]

/-- a byte is set in a slice of the call's own -/
theorem ob_set {w : World} {base g n cap : Nat} {zs : List Int} (h : OB w base (.slice (some ⟨g, 0, none⟩) n cap) zs) (i : Nat) (hi : i < n) (z : Int) (hz : 0 ≤ z ∧ z ≤ 255) : OB (w.setCell ⟨g, i, none⟩ (.int .u8 z)) base (.slice (some ⟨g, 0, none⟩) n cap) (zs.set i z) := by
  obtain ⟨⟨hl, h0 | ⟨g', cap', cur, hv, hg, hh, h1, h2, h3, h4⟩⟩, hr⟩ := h
  · simp at h0
  · simp at hv
    obtain ⟨rfl, rfl, rfl⟩ := hv
    refine ⟨⟨by simp, .inr ⟨g, cap, cur.setIfInBounds i (.int .u8 z), by simp, hg, Blk.set (w := w) hh i _, by simpa using h1, h2, by simpa using h3, ?_⟩⟩, ?_⟩
    · rw [List.length_set, Array.toList_setIfInBounds, List.take_set, h4, List.map_set]
    · intro y hy
      rcases List.mem_or_eq_of_mem_set hy with hy | rfl
      · exact hr y hy
      · exact hz
theorem ob_put {w : World} {base g n cap : Nat} {zs : List Int} (h : OB w base (.slice (some ⟨g, 0, none⟩) n cap) zs) (k : Nat) (v : Int) : ∀ j, k + j ≤ n → OB (putW w g k v j) base (.slice (some ⟨g, 0, none⟩) n cap) (put zs k v j)
  | 0, _ => h
  | j + 1, hj => ob_set (ob_put h k v j (by omega)) (k + j) (by omega) _ (bt_range v j)
theorem ob_putD4 {w : World} {base g n cap : Nat} {zs : List Int} (h : OB w base (.slice (some ⟨g, 0, none⟩) n cap) zs) (k : Nat) (v : Int) (hk : k + 4 ≤ n) : OB (putD4 w g k v) base (.slice (some ⟨g, 0, none⟩) n cap) (put zs k v 4) := by
  rw [put_desc4]
  exact ob_set (ob_set (ob_set (ob_set h (k + 3) (by omega) _ (bt_range v 3)) (k + 2) (by omega) _ (bt_range v 2)) (k + 1) (by omega) _ (bt_range v 1)) k (by omega) _ (bt_range v 0)
theorem ob_putD2 {w : World} {base g n cap : Nat} {zs : List Int} (h : OB w base (.slice (some ⟨g, 0, none⟩) n cap) zs) (k : Nat) (v : Int) (hk : k + 2 ≤ n) : OB (putD2 w g k v) base (.slice (some ⟨g, 0, none⟩) n cap) (put zs k v 2) := by
  rw [put_desc2]
  exact ob_set (ob_set h (k + 1) (by omega) _ (bt_range v 1)) k (by omega) _ (bt_range v 0)
theorem ob_putD1 {w : World} {base g n cap : Nat} {zs : List Int} (h : OB w base (.slice (some ⟨g, 0, none⟩) n cap) zs) (k : Nat) (v : Int) (hk : k + 1 ≤ n) : OB (putD1 w g k v) base (.slice (some ⟨g, 0, none⟩) n cap) (put zs k v 1) :=
  ob_set h k (by omega) _ (bt_range v 0)
theorem ob_room {w : World} {base g n cap : Nat} {zs : List Int} (h : OB w base (.slice (some ⟨g, 0, none⟩) n cap) zs) : Room w g n := by
  obtain ⟨⟨hl, h0 | ⟨g', cap', cur, hv, hg, hh, h1, h2, h3, h4⟩⟩, hr⟩ := h
  · simp at h0
  · simp at hv
    obtain ⟨rfl, rfl, rfl⟩ := hv
    exact ⟨cur, hh, by omega⟩

/-- what only block g has turned -/
def Only (g : Nat) (w w' : World) : Prop := w'.heap.size = w.heap.size ∧ (∀ k, k ≠ g → w'.heap[k]? = w.heap[k]?) ∧ w'.os = w.os ∧ w'.tape = w.tape ∧ w'.output = w.output
theorem only_refl (g : Nat) (w : World) : Only g w w := ⟨rfl, fun _ _ => rfl, rfl, rfl, rfl⟩
theorem only_set {g : Nat} {w w' : World} (h : Only g w w') (i : Nat) (u : Value) : Only g w (w'.setCell ⟨g, i, none⟩ u) :=
  ⟨by rw [size_setCell]; exact h.1, fun k hk => by rw [heap_setCell_other _ _ _ _ hk]; exact h.2.1 k hk, h.2.2.1, h.2.2.2.1, h.2.2.2.2⟩
theorem only_put (g k : Nat) (v : Int) (w : World) : ∀ j, Only g w (putW w g k v j)
  | 0 => only_refl g w
  | j + 1 => only_set (only_put g k v w j) (k + j) _
theorem only_putD4 (g k : Nat) (v : Int) (w : World) : Only g w (putD4 w g k v) := only_set (only_set (only_set (only_set (only_refl g w) _ _) _ _) _ _) _ _
theorem only_putD2 (g k : Nat) (v : Int) (w : World) : Only g w (putD2 w g k v) := only_set (only_set (only_refl g w) _ _) _ _
theorem only_putD1 (g k : Nat) (v : Int) (w : World) : Only g w (putD1 w g k v) := only_set (only_refl g w) _ _
theorem only_below {B g : Nat} {a w w' : World} (h : Below B a w) (ho : Only g w w') (hg : B ≤ g) : Below B a w' :=
  ⟨ho.2.2.1.trans h.os, ho.2.2.2.1.trans h.tape, ho.2.2.2.2.trans h.output, by rw [ho.1]; exact h.size, fun k hk => (ho.2.1 k (by omega)).trans (h.block k hk)⟩
theorem only_blk {g k : Nat} {w w' : World} {cs : Array Value} {t : TypeId} (ho : Only g w w') (h : Blk w k cs t) (hk : k ≠ g) : Blk w' k cs t := by
  unfold Blk at *; rw [ho.2.1 k hk]; exact h
theorem only_ob {g base : Nat} {w w' : World} {v : Value} {zs : List Int} (ho : Only g w w') (h : OB w base v zs) (hk : v.ownBlock ≠ some g) : OB w' base v zs := by
  refine ⟨?_, h.2⟩
  obtain ⟨hl, h0 | ⟨g', cap, cur, rfl, hg, hh, h1, h2, h3, h4⟩⟩ := h.1
  · exact ⟨hl, .inl h0⟩
  · refine ⟨hl, .inr ⟨g', cap, cur, rfl, hg, ?_, h1, h2, h3, h4⟩⟩
    exact only_blk ho hh (by intro e; subst e; exact hk rfl)

theorem put_word (zs : List Int) (k : Nat) (v : Int) : put zs k (v % 4294967296) 4 = put zs k v 4 ∧ put zs k (v % 4294967296) 2 = put zs k v 2 ∧ put zs k (v % 4294967296) 1 = put zs k v 1 := by
  obtain ⟨e0, e1, e2, e3⟩ := bt_word v
  simp only [put, e0, e1, e2, e3, and_self]
end Go.Proofs.YtngdgogjlpjjpaeGreat

namespace Go.Proofs.YtngdgogjlpjjpaeGreat
open Go.RowKit
set_option linter.unusedVariables false

theorem own3_below {w w' : World} {base : Nat} {v1 v2 v3 : Value} {x1 x2 x3 : List Int} (h : Own3 w base v1 v2 v3 x1 x2 x3) (hb : Below w.heap.size w w') : Own3 w' base v1 v2 v3 x1 x2 x3 :=
  ⟨h.1.below hb, h.2.1.below hb, h.2.2.1.below hb, h.2.2.2⟩
theorem own3_alloc {w : World} {base : Nat} {v1 v2 v3 : Value} {x1 x2 x3 : List Int} (h : Own3 w base v1 v2 v3 x1 x2 x3) (o : Obj) : Own3 (w.alloc o) base v1 v2 v3 x1 x2 x3 :=
  own3_below h ((Below.refl _ _).alloc (Nat.le_refl _) o)
theorem own3_other {w : World} {base : Nat} {v1 v2 v3 : Value} {x1 x2 x3 : List Int} (h : Own3 w base v1 v2 v3 x1 x2 x3) (a : Addr) (u : Value) (ha : a.block < base) : Own3 (w.setCell a u) base v1 v2 v3 x1 x2 x3 :=
  ⟨h.1.other a u ha, h.2.1.other a u ha, h.2.2.1.other a u ha, h.2.2.2⟩
theorem own3_mono {w : World} {base base' : Nat} {v1 v2 v3 : Value} {x1 x2 x3 : List Int} (h : Own3 w base v1 v2 v3 x1 x2 x3) (hb : base' ≤ base) : Own3 w base' v1 v2 v3 x1 x2 x3 :=
  ⟨h.1.mono hb, h.2.1.mono hb, h.2.2.1.mono hb, h.2.2.2⟩
theorem ob_far {w : World} {base g : Nat} {v : Value} {zs : List Int} (h : OB w base v zs) (a : Addr) (u : Value) (ha : v.ownBlock ≠ some a.block) : OB (w.setCell a u) base v zs := by
  refine ⟨?_, h.2⟩
  obtain ⟨hl, h0 | ⟨g', cap, cur, rfl, hg, hh, h1, h2, h3, h4⟩⟩ := h.1
  · exact ⟨hl, .inl h0⟩
  · exact ⟨hl, .inr ⟨g', cap, cur, rfl, hg, Blk.other (w := w) hh a u (by intro e; apply ha; rw [← e]; rfl), h1, h2, h3, h4⟩⟩
theorem grown_blk {w w' : World} {row : Option Nat} {k : Nat} {cs : Array Value} {t : TypeId} (hg : w.grownBy w' row) (h : Blk w k cs t) (hk : some k ≠ row) : Blk w' k cs t := by
  have := hg.block k h.lt hk
  unfold Blk at *; rw [this]; exact h
theorem grown_ob {w w' : World} {row : Option Nat} {base : Nat} {v : Value} {zs : List Int} (hg : w.grownBy w' row) (h : OB w base v zs) (hk : v.ownBlock = none ∨ v.ownBlock ≠ row) : OB w' base v zs :=
  ⟨h.1.kept hg hk, h.2⟩

/-- WHAT Write ANSWERS. -/
def wrm (n1 n2 n3 : Nat) (x1 x2 x3 : List Int) (p s v : Int) : List Int × List Int × List Int × Int :=
  if mok n1 n2 n3 = true ∧ wd s = true then
    if (p.tmod s != 0) = true then (x1, x2, x3, 1)
    else if p = 131072 then (if 5000 ≤ n3 then (x1, x2, x3, 4) else (x1, x2, x3 ++ [v % 256], 0))
      else if ins p s 0 n1 = true then (x1, x2, x3, 3)
      else if ins p s 65536 n2 = true then (x1, put x2 (p - 65536).toNat v s.toNat, x3, 0) else (x1, x2, x3, 2)
  else (x1, x2, x3, 2)

def WrPost (w : World) (r : List Int × List Int × List Int × Int) (e : Ending) (w' : World) : Prop :=
  ∃ a1 m1 d1 a2 m2 d2 a3 m3 d3, e = .returned (.tuple #[.agg #[.slice a1 m1 d1, .slice a2 m2 d2, .slice a3 m3 d3], .int .i64 r.2.2.2]) ∧ Own3 w' w.heap.size (.slice a1 m1 d1) (.slice a2 m2 d2) (.slice a3 m3 d3) r.1 r.2.1 r.2.2.1 ∧ Below w.heap.size w w'

/-- THE WORLD AS Write HOLDS IT: its box, its result's block, its own copy at 'go', and the bytes. -/
structure Hold (w W : World) (base go : Nat) (bx : Array Value) (v1 v2 v3 : Value) (x1 x2 x3 : List Int) : Prop where
  below : Below w.heap.size w W
  big : w.heap.size + 2 ≤ base
  gobig : base ≤ go
  box : Blk W w.heap.size bx 50
  res : Blk W (w.heap.size + 1) #[.slice none 0 0, .slice none 0 0, .slice none 0 0] 50
  out : Blk W go #[v1, v2, v3] 50
  own : Own3 W base v1 v2 v3 x1 x2 x3
  far : ∀ v, v = v1 ∨ v = v2 ∨ v = v3 → v.ownBlock ≠ some go
theorem Hold.step {w W W' : World} {base go : Nat} {bx : Array Value} {v1 v2 v3 : Value} {x1 x2 x3 : List Int} (h : Hold w W base go bx v1 v2 v3 x1 x2 x3) (hb : Below W.heap.size W W') : Hold w W' base go bx v1 v2 v3 x1 x2 x3 :=
  ⟨h.below.trans (hb.mono h.below.size), h.big, h.gobig, h.box.below hb, h.res.below hb, h.out.below hb, own3_below h.own hb, h.far⟩

def resW (W : World) (g : Nat) (v1 v2 v3 : Value) : World := ((W.setCell ⟨g, 0, none⟩ v1).setCell ⟨g, 1, none⟩ v2).setCell ⟨g, 2, none⟩ v3
theorem Hold.done {w W : World} {base go : Nat} {bx : Array Value} {v1 v2 v3 : Value} {x1 x2 x3 : List Int} (h : Hold w W base go bx v1 v2 v3 x1 x2 x3) :
    Own3 (resW W (w.heap.size + 1) v1 v2 v3) w.heap.size v1 v2 v3 x1 x2 x3 ∧ Below w.heap.size w (resW W (w.heap.size + 1) v1 v2 v3) := by
  have hb := h.big
  exact ⟨own3_mono (own3_other (own3_other (own3_other h.own _ _ (by dsimp only; omega)) _ _ (by dsimp only; omega)) _ _ (by dsimp only; omega)) (by omega),
    ((h.below.setCell (by dsimp only; omega) _).setCell (by dsimp only; omega) _).setCell (by dsimp only; omega) _⟩
theorem turn_ob {S : Nat → Prop} {base : Nat} {w w' : World} {v : Value} {zs : List Int} (ht : Turn S w w') (h : OB w base v zs) (hk : ∀ k, v.ownBlock = some k → ¬ S k) : OB w' base v zs := by
  refine ⟨?_, h.2⟩
  obtain ⟨hl, h0 | ⟨g', cap, cur, rfl, hg, hh, h1, h2, h3, h4⟩⟩ := h.1
  · exact ⟨hl, .inl h0⟩
  · exact ⟨hl, .inr ⟨g', cap, cur, rfl, hg, turn_blk ht hh (hk g' rfl), h1, h2, h3, h4⟩⟩
end Go.Proofs.YtngdgogjlpjjpaeGreat
