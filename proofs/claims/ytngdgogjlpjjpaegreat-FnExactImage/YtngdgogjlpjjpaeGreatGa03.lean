import Derived.Test.YtngdgogjlpjjpaeGreatGa01
import Derived.Test.YtngdgogjlpjjpaeGreatGa00
import Derived.Test.YtngdgogjlpjjpaeGreatGa02
import Derived.Laws.BitsLemmas
namespace Go.Proofs.YtngdgogjlpjjpaeGreat
open Go.RowKit
set_option linter.unusedVariables false
set_option maxRecDepth 100000

theorem IS.at {w : World} {b off n cap : Nat} {zs : List Int} (h : IS w (Option.some ⟨b, off, none⟩) n cap zs) (i : Nat) (hi : i < n) : w.cell? ⟨b, off + i, none⟩ = Option.some (.int .i64 (zs.getD i 0)) := by
  obtain ⟨b', off', e, hd⟩ := h.2.2.2.1 (by omega)
  simp at e
  obtain ⟨rfl, rfl⟩ := e
  exact hd i hi
theorem IS.addr {w : World} {a : Option Addr} {n cap : Nat} {zs : List Int} (h : IS w a n cap zs) (hn : n ≠ 0) : ∃ b off, a = some ⟨b, off, none⟩ := by
  obtain ⟨b, off, e, _⟩ := h.2.2.2.1 hn
  exact ⟨b, off, e⟩
def OI (w : World) (base : Nat) (v : Value) (zs : List Int) : Prop := w.ownsRow base 3 1 v zs.length (zs.map (Value.int .i64)) ∧ ∀ z ∈ zs, wfi z

theorem is_news {w : World} {b off n cap : Nat} {zs : List Int} (h : IS w (some ⟨b, off, none⟩) n cap zs) : ∀ j u, (zs.map (Value.int .i64))[j]? = some u → w.cell? ((⟨b, off, none⟩ : Addr).add j) = some u := by
  intro j u hj
  have hl := h.1
  have hjl : j < n := by
    by_cases e : j < n
    · exact e
    · rw [List.getElem?_eq_none (by simp; omega)] at hj; simp at hj
  rw [addr_add, h.at j hjl]
  rw [← hj]
  simp [List.getD_eq_getElem?_getD, show j < zs.length by omega]
theorem own_emptyI (w : World) : (w.alloc (.cells #[] 3)).ownsRow w.heap.size 3 1 (.slice (some ⟨w.heap.size, 0, none⟩) 0 0) 0 [] :=
  ⟨rfl, .inr ⟨w.heap.size, 0, #[], rfl, Nat.le_refl _, heap_alloc_new w _, Nat.le_refl _, Nat.zero_le _, rfl, rfl⟩⟩
theorem OI.below {w w' : World} {base : Nat} {v : Value} {zs : List Int} (h : OI w base v zs) (hb : Below w.heap.size w w') : OI w' base v zs := by
  refine ⟨?_, h.2⟩
  obtain ⟨hl, h0 | ⟨g, cap, cur, hv, hg, hh, h1, h2, h3, h4⟩⟩ := h.1
  · exact ⟨hl, .inl h0⟩
  · refine ⟨hl, .inr ⟨g, cap, cur, hv, hg, ?_, h1, h2, h3, h4⟩⟩
    exact Blk.below (w := w) hh hb
theorem OI.mono {w : World} {base base' : Nat} {v : Value} {zs : List Int} (h : OI w base v zs) (hb : base' ≤ base) : OI w base' v zs := by
  refine ⟨?_, h.2⟩
  obtain ⟨hl, h0 | ⟨g, cap, cur, hv, hg, hh, h1, h2, h3, h4⟩⟩ := h.1
  · exact ⟨hl, .inl h0⟩
  · exact ⟨hl, .inr ⟨g, cap, cur, hv, by omega, hh, h1, h2, h3, h4⟩⟩
theorem OI.other {w : World} {base : Nat} {v : Value} {zs : List Int} (h : OI w base v zs) (a : Addr) (u : Value) (ha : a.block < base) : OI (w.setCell a u) base v zs := by
  refine ⟨?_, h.2⟩
  obtain ⟨hl, h0 | ⟨g, cap, cur, hv, hg, hh, h1, h2, h3, h4⟩⟩ := h.1
  · exact ⟨hl, .inl h0⟩
  · exact ⟨hl, .inr ⟨g, cap, cur, hv, hg, Blk.other (w := w) hh a u (by omega), h1, h2, h3, h4⟩⟩
theorem OI.lt {w : World} {base : Nat} {v : Value} {zs : List Int} (h : OI w base v zs) : ∀ k, v.ownBlock = some k → base ≤ k ∧ k < w.heap.size := h.1.lt
theorem OI.is {w : World} {base n cap : Nat} {a : Option Addr} {zs : List Int} (h : OI w base (.slice a n cap) zs) : IS w a n cap zs := by
  obtain ⟨hl, ⟨h0, h0'⟩ | ⟨g, cap', cur, hv, hg, hh, h1, h2, h3, h4⟩⟩ := h.1
  · simp at h0
    obtain ⟨rfl, rfl, rfl⟩ := h0
    exact ⟨h0', Nat.zero_le _, h.2, fun hn => absurd rfl hn, Nat.le_refl _⟩
  · simp at hv
    obtain ⟨rfl, rfl, rfl⟩ := hv
    refine ⟨rfl, by omega, h.2, fun hn => ⟨g, 0, rfl, fun i hi => ?_⟩, h1⟩
    rw [Nat.zero_add, Blk.cell (w := w) hh]
    have : cur.toList[i]? = (zs.map (Value.int .i64))[i]? := by
      rw [← h4, List.getElem?_take, if_pos (by omega)]
    rw [Array.getElem?_toList] at this
    rw [this]
    simp [List.getD_eq_getElem?_getD, hi]

def RoomI (w : World) (g n : Nat) : Prop := ∃ cur, Blk w g cur 3 ∧ n ≤ cur.size
theorem RoomI.cell {w : World} {g n : Nat} (h : RoomI w g n) (i : Nat) (hi : i < n) : ∃ u, w.cell? ⟨g, i, none⟩ = some u := by
  obtain ⟨cur, hb, hn⟩ := h
  rw [hb.cell]
  exact ⟨cur[i], by simp⟩
theorem RoomI.frozen {w : World} {g n : Nat} (h : RoomI w g n) (i : Nat) : w.frozen? ⟨g, i, none⟩ = false := by
  obtain ⟨cur, hb, hn⟩ := h
  exact hb.frozen i
theorem RoomI.set {w : World} {g n : Nat} (h : RoomI w g n) (i : Nat) (u : Value) : RoomI (w.setCell ⟨g, i, none⟩ u) g n := by
  obtain ⟨cur, hb, hn⟩ := h
  exact ⟨_, hb.set i u, by simpa using hn⟩
theorem oi_set {w : World} {base g n cap : Nat} {zs : List Int} (h : OI w base (.slice (some ⟨g, 0, none⟩) n cap) zs) (i : Nat) (hi : i < n) (z : Int) (hz : wfi z) : OI (w.setCell ⟨g, i, none⟩ (.int .i64 z)) base (.slice (some ⟨g, 0, none⟩) n cap) (zs.set i z) := by
  obtain ⟨⟨hl, h0 | ⟨g', cap', cur, hv, hg, hh, h1, h2, h3, h4⟩⟩, hr⟩ := h
  · simp at h0
  · simp at hv
    obtain ⟨rfl, rfl, rfl⟩ := hv
    refine ⟨⟨by simp, .inr ⟨g, cap, cur.setIfInBounds i (.int .i64 z), by simp, hg, Blk.set (w := w) hh i _, by simpa using h1, h2, by simpa using h3, ?_⟩⟩, ?_⟩
    · rw [List.length_set, Array.toList_setIfInBounds, List.take_set, h4, List.map_set]
    · intro y hy
      rcases List.mem_or_eq_of_mem_set hy with hy | rfl
      · exact hr y hy
      · exact hz
theorem oi_room {w : World} {base g n cap : Nat} {zs : List Int} (h : OI w base (.slice (some ⟨g, 0, none⟩) n cap) zs) : RoomI w g n := by
  obtain ⟨⟨hl, h0 | ⟨g', cap', cur, hv, hg, hh, h1, h2, h3, h4⟩⟩, hr⟩ := h
  · simp at h0
  · simp at hv
    obtain ⟨rfl, rfl, rfl⟩ := hv
    exact ⟨cur, hh, by omega⟩

theorem oi_far {w : World} {base g : Nat} {v : Value} {zs : List Int} (h : OI w base v zs) (a : Addr) (u : Value) (ha : v.ownBlock ≠ some a.block) : OI (w.setCell a u) base v zs := by
  refine ⟨?_, h.2⟩
  obtain ⟨hl, h0 | ⟨g', cap, cur, rfl, hg, hh, h1, h2, h3, h4⟩⟩ := h.1
  · exact ⟨hl, .inl h0⟩
  · exact ⟨hl, .inr ⟨g', cap, cur, rfl, hg, Blk.other (w := w) hh a u (by intro e; apply ha; rw [← e]; rfl), h1, h2, h3, h4⟩⟩
theorem grown_oi {w w' : World} {row : Option Nat} {base : Nat} {v : Value} {zs : List Int} (hg : w.grownBy w' row) (h : OI w base v zs) (hk : v.ownBlock = none ∨ v.ownBlock ≠ row) : OI w' base v zs :=
  ⟨h.1.kept hg hk, h.2⟩

theorem turn_oi {S : Nat → Prop} {base : Nat} {w w' : World} {v : Value} {zs : List Int} (ht : Turn S w w') (h : OI w base v zs) (hk : ∀ k, v.ownBlock = some k → ¬ S k) : OI w' base v zs := by
  refine ⟨?_, h.2⟩
  obtain ⟨hl, h0 | ⟨g', cap, cur, rfl, hg, hh, h1, h2, h3, h4⟩⟩ := h.1
  · exact ⟨hl, .inl h0⟩
  · exact ⟨hl, .inr ⟨g', cap, cur, rfl, hg, turn_blk ht hh (hk g' rfl), h1, h2, h3, h4⟩⟩
/-- the marksI: k, k + 1, .. as bytes, n of them -/
def marksI (k n : Nat) : List Int := (List.range n).map fun i => ((k + i : Nat) : Int)
theorem marksI_len (k n : Nat) : (marksI k n).length = n := by simp [marksI]
def mixedI (zs : List Int) (k m : Nat) : List Int := (List.range zs.length).map fun i => if i < m then ((k + i : Nat) : Int) else zs.getD i 0
theorem mixedI_zero (zs : List Int) (k : Nat) : mixedI zs k 0 = zs := by
  apply List.ext_getElem
  · simp [mixedI]
  · intro i h1 h2; simp [mixedI, h2]
theorem mixedI_all (zs : List Int) (k : Nat) : mixedI zs k zs.length = marksI k zs.length := by
  apply List.ext_getElem
  · simp [mixedI, marksI]
  · intro i h1 h2
    simp [marksI] at h2
    simp [mixedI, marksI, h2]
theorem mixedI_len (zs : List Int) (k m : Nat) : (mixedI zs k m).length = zs.length := by simp [mixedI]
theorem mixedI_set (zs : List Int) (k m : Nat) (h : m < zs.length) : (mixedI zs k m).set m (((k + m : Nat) : Int)) = mixedI zs k (m + 1) := by
  apply List.ext_getElem
  · simp [mixedI]
  · intro i h1 h2
    simp only [mixedI, List.getElem_set, List.getElem_map, List.getElem_range]
    by_cases hik : m = i
    · subst hik; simp
    · by_cases h3 : i < m
      · simp [hik, h3, show i < m + 1 by omega]
      · simp [hik, h3, show ¬ i < m + 1 by omega]

set_option maxHeartbeats 1000000 in
theorem markIntS_some (g n cap base : Nat) (zs : List Int) (k : Nat) (w : World) (h : OI w base (.slice (some ⟨g, 0, none⟩) n cap) zs) (hn : n ≤ 2097152) (hk : k ≤ 4194304) :
    Calls Tryz.prog 90 #[.slice (some ⟨g, 0, none⟩) n cap, .int .i64 k] w fun e w' => e = .returned (.int .i64 ((k + n : Nat) : Int)) ∧ OI w' base (.slice (some ⟨g, 0, none⟩) n cap) (marksI k n) ∧ Turn (fun j => j = g) w w' := by
  have hl := h.is.1
  go_enter Tryz.func90, Tryz.ntmps90
  go_wp2
  go_loopw [1, 5] (fun x i wr => ∃ m : Nat, m ≤ n ∧ i = .int .i64 m ∧ x = .int .i64 ((k + m : Nat) : Int) ∧ OI wr base (.slice (some ⟨g, 0, none⟩) n cap) (mixedI zs k m) ∧ Turn (fun j => j = g) w wr) (fun _ i _ => n - (intOf i).toNat)
  case atStart => exact ⟨0, Nat.zero_le _, rfl, rfl, by rw [mixedI_zero]; exact h, Turn.refl _ _⟩
  case round =>
    obtain ⟨m, hm, rfl, rfl, hO, hT⟩ := hrel
    by_cases hlt : m < n
    · have hlt' : (m : Int) < (n : Int) := by omega
      obtain ⟨u, hu⟩ := (oi_room hO).cell m hlt
      have hf := (oi_room hO).frozen m
      have hset := oi_set hO m hlt (((k + m : Nat) : Int)) (by unfold wfi; omega)
      rw [mixedI_set zs k m (by omega)] at hset
      have hT2 : Turn (fun j => j = g) w (wr.setCell ⟨g, m, none⟩ (.int .i64 (((k + m : Nat) : Int)))) :=
        hT.trans ⟨rfl, rfl, rfl, by rw [size_setCell]; exact Nat.le_refl _, fun j hj hs => heap_setCell_other _ _ _ _ hs⟩
      have HO := hide hset
      have HT := hide hT2
      clear hset hT2 hO hT
      obtain ⟨K, hK⟩ : ∃ K : Int, K = ((k + m : Nat) : Int) := ⟨_, rfl⟩
      have hK0 : 0 ≤ K := by omega
      have hK1 : K ≤ 8388608 := by omega
      have HK := hide (show K + 1 = ((k + (m + 1) : Nat) : Int) by omega)
      rw [← hK] at HO HT ⊢
      clear hK
      go_wp2
      go_roundw
      case rel => exact ⟨m + 1, by omega, by go_num, by rw [HK.out], HO.out, HT.out⟩
      case measure => simp [intOf]; omega
    · have e : Hid (m = n) := by show m = n; omega
      go_wp2
      go_ret
      exact ⟨ret_int (by rw [e.out]), by rw [e.out, ← hl, mixedI_all] at hO; rw [hl] at hO; exact hO, hT⟩
set_option maxHeartbeats 1000000 in
theorem markIntS_zero (a : Option Addr) (cap k : Nat) (w : World) :
    Calls Tryz.prog 90 #[.slice a 0 cap, .int .i64 k] w fun e w' => e = .returned (.int .i64 k) ∧ w = w' := by
  go_enter Tryz.func90, Tryz.ntmps90
  go_wp2
  go_loop [1, 5] (fun x i => i = .int .i64 0 ∧ x = .int .i64 k) (fun _ _ => 0)
  case atStart => exact ⟨rfl, rfl⟩
  case round =>
    obtain ⟨rfl, rfl⟩ := hrel
    go_wp2
    go_ret
    exact ⟨rfl, rfl⟩

theorem markIntS_any (a : Option Addr) (n cap base : Nat) (zs : List Int) (k : Nat) (w : World) (h : OI w base (.slice a n cap) zs) (hn : n ≤ 2097152) (hk : k ≤ 4194304) :
    Calls Tryz.prog 90 #[.slice a n cap, .int .i64 k] w fun e w' => e = .returned (.int .i64 ((k + n : Nat) : Int)) ∧ OI w' base (.slice a n cap) (marksI k n) ∧ Turn (fun j => (Value.slice a n cap).ownBlock = some j) w w' := by
  by_cases h0 : n = 0
  · subst h0
    refine (markIntS_zero a cap k w).mono fun e w' he => ?_
    obtain ⟨rfl, rfl⟩ := he
    have hz : zs = [] := List.eq_nil_of_length_eq_zero h.is.1
    subst hz
    exact ⟨rfl, h, Turn.refl _ _⟩
  · obtain ⟨g, rfl⟩ : ∃ g, a = some ⟨g, 0, none⟩ := by
      obtain ⟨hl, ⟨h0', _⟩ | ⟨g, cap', cur, hv, _⟩⟩ := h.1
      · simp at h0'; exact absurd h0'.2.1 h0
      · simp at hv; exact ⟨g, hv.1⟩
    refine (markIntS_some g n cap base zs k w h hn hk).mono fun e w' he => ⟨he.1, he.2.1, he.2.2.mono ?_⟩
    intro j hj
    subst hj
    rfl

theorem marksI_getD (k n m : Nat) (h : m < n) : (marksI k n).getD m 0 = ((k + m : Nat) : Int) := by simp [marksI, List.getD_eq_getElem?_getD, h]

set_option maxHeartbeats 1000000 in
theorem heldIntS_any (a : Option Addr) (n cap : Nat) (k : Nat) (w : World) (h : IS w a n cap (marksI k n)) (hn : n ≤ 2097152) (hk : k ≤ 4194304) :
    Calls Tryz.prog 190 #[.slice a n cap, .int .i64 k] w fun e w' => e = .returned (.int .i64 ((k + n : Nat) : Int)) ∧ w = w' := by
  go_enter Tryz.func190, Tryz.ntmps190
  go_wp2
  go_loop [1, 5] (fun x i => ∃ m : Nat, m ≤ n ∧ i = .int .i64 m ∧ x = .int .i64 ((k + m : Nat) : Int)) (fun _ i => n - (intOf i).toNat)
  case atStart => exact ⟨0, Nat.zero_le _, rfl, rfl⟩
  case round =>
    obtain ⟨m, hm, rfl, rfl⟩ := hrel
    by_cases hlt : m < n
    · have hlt' : (m : Int) < (n : Int) := by omega
      obtain ⟨b, off, rfl⟩ := h.addr (by omega)
      have hc := h.at m hlt
      rw [marksI_getD k n m hlt] at hc
      obtain ⟨K, hK⟩ : ∃ K : Int, K = ((k + m : Nat) : Int) := ⟨_, rfl⟩
      have hK0 : 0 ≤ K := by omega
      have hK1 : K ≤ 8388608 := by omega
      have HK := hide (show K + 1 = ((k + (m + 1) : Nat) : Int) by omega)
      rw [← hK] at hc ⊢
      have hne : (K != K) = false := by simp
      clear hK
      go_wp2
      go_round
      case rel => exact ⟨m + 1, by omega, by go_num, by rw [HK.out]⟩
      case measure => simp [intOf]; omega
    · have e : Hid (m = n) := by show m = n; omega
      go_wp2
      go_ret
      exact ⟨ret_int (by rw [e.out]), rfl⟩

end Go.Proofs.YtngdgogjlpjjpaeGreat

namespace Go.Proofs.YtngdgogjlpjjpaeGreat
open Go.RowKit
set_option linter.unusedVariables false

/-- WHICH FIELDS AN OPERATION USES: D 1, A 2, Imm 4; -1 where there is none. -/
def us (op : Int) : Int :=
  if op = 1 ∨ op = 25 then 0 else if op = 2 ∨ op = 3 ∨ op = 21 ∨ op = 22 then 5 else if op = 6 ∨ (14 ≤ op ∧ op ≤ 19) then 7
  else if op = 20 ∨ op = 23 ∨ op = 24 then 4 else if 4 ≤ op ∧ op ≤ 13 then 3 else -1
theorem us_out (op : Int) (h : op ≤ 0 ∨ 26 ≤ op) : us op = -1 := by
  unfold us
  rw [if_neg (by omega), if_neg (by omega), if_neg (by omega), if_neg (by omega), if_neg (by omega)]
theorem us_is (op : Int) : us op = -1 ∨ us op = 0 ∨ us op = 3 ∨ us op = 4 ∨ us op = 5 ∨ us op = 7 := by
  unfold us
  split
  · simp
  · split
    · simp
    · split
      · simp
      · split
        · simp
        · split <;> simp
theorem op_cases (op : Int) : op ≤ 0 ∨ 26 ≤ op ∨ op = 1 ∨ op = 2 ∨ op = 3 ∨ op = 4 ∨ op = 5 ∨ op = 6 ∨ op = 7 ∨ op = 8 ∨ op = 9 ∨ op = 10 ∨ op = 11 ∨ op = 12 ∨ op = 13 ∨ op = 14 ∨ op = 15 ∨ op = 16 ∨ op = 17 ∨ op = 18 ∨ op = 19 ∨ op = 20 ∨ op = 21 ∨ op = 22 ∨ op = 23 ∨ op = 24 ∨ op = 25 := by omega

/-- the greatest fields -/
def mD (u : Int) : Int := if u % 2 = 1 then 7 else 0
def mA (u : Int) : Int := if u / 2 % 2 = 1 then 7 else 0
def mI (u : Int) : Int := if u / 4 = 1 then 65535 else 0
/-- WHAT AN INSTRUCTION IS. -/
def okU (u d a i : Int) : Bool := decide (0 ≤ u ∧ 0 ≤ d ∧ d ≤ mD u ∧ 0 ≤ a ∧ a ≤ mA u ∧ 0 ≤ i ∧ i ≤ mI u)
def okI (op d a i : Int) : Bool := okU (us op) d a i

set_option maxHeartbeats 1000000 in
theorem l3Uses_any (op : Int) (w : World) :
    Calls Tryz.prog 278 #[.int .i64 op] w fun e w' => e = .returned (.int .i64 (us op)) ∧ w = w' := by
  rcases op_cases op with h | h | rfl | rfl | rfl | rfl | rfl | rfl | rfl | rfl | rfl | rfl | rfl | rfl | rfl | rfl | rfl | rfl | rfl | rfl | rfl | rfl | rfl | rfl | rfl | rfl | rfl
  · have HU := hide (us_out op (Or.inl h))
    have e1 : (op == 1) = false := by simp; omega
    have e25 : (op == 25) = false := by simp; omega
    have e2 : (op == 2) = false := by simp; omega
    have e3 : (op == 3) = false := by simp; omega
    have e21 : (op == 21) = false := by simp; omega
    have e22 : (op == 22) = false := by simp; omega
    have e6 : (op == 6) = false := by simp; omega
    have e20 : (op == 20) = false := by simp; omega
    have e23 : (op == 23) = false := by simp; omega
    have e24 : (op == 24) = false := by simp; omega
    go_enter Tryz.func278, Tryz.ntmps278
    go_wp2
    go_ret
    exact ⟨ret_int HU.out.symm, rfl⟩
  · have HU := hide (us_out op (Or.inr h))
    have e1 : (op == 1) = false := by simp; omega
    have e25 : (op == 25) = false := by simp; omega
    have e2 : (op == 2) = false := by simp; omega
    have e3 : (op == 3) = false := by simp; omega
    have e21 : (op == 21) = false := by simp; omega
    have e22 : (op == 22) = false := by simp; omega
    have e6 : (op == 6) = false := by simp; omega
    have e20 : (op == 20) = false := by simp; omega
    have e23 : (op == 23) = false := by simp; omega
    have e24 : (op == 24) = false := by simp; omega
    go_enter Tryz.func278, Tryz.ntmps278
    go_wp2
    go_ret
    exact ⟨ret_int HU.out.symm, rfl⟩
  all_goals
    go_enter Tryz.func278, Tryz.ntmps278
    go_wp2
    go_ret
    exact ⟨ret_int (by decide), rfl⟩

set_option maxHeartbeats 2000000 in
theorem l3InsOk_any (op d a i : Int) (w : World) :
    Calls Tryz.prog 252 #[.agg #[.int .i64 op, .int .i64 d, .int .i64 a, .int .i64 i]] w fun e w' => e = .returned (.bool (okI op d a i)) ∧ Below w.heap.size w w' := by
  have HU := hide (l3Uses_any op)
  unfold okI
  have hu := us_is op
  generalize us op = u at *
  rcases hu with rfl | rfl | rfl | rfl | rfl | rfl
  all_goals
    go_enter Tryz.func252, Tryz.ntmps252
    go_wp2_with (go_at_call 278; refine (HU.out _).mono ?_; rintro e w' ⟨rfl, rfl⟩)
    all_goals
      go_ret
      refine ⟨ret_bool ?_, (Below.refl _ _).alloc (Nat.le_refl _) _⟩
      rw [Bool.eq_iff_iff]
      simp [okU, mD, mA, mI]
      try omega
end Go.Proofs.YtngdgogjlpjjpaeGreat

namespace Go.Proofs.YtngdgogjlpjjpaeGreat
open Go.RowKit
set_option linter.unusedVariables false

theorem wraps62 (n : Int) (h₀ : 0 ≤ n) (h₁ : n < 2 ^ 62) : IntKind.i64.wrap n = n := by
  rw [IntKind.wrap_i64]; omega
theorem nat_and_zero (a : Nat) : a &&& 983040 = (a / 65536 % 16) * 65536 := by
  apply Nat.eq_of_testBit_eq
  intro i
  have e1 : (983040 : Nat) = (2 ^ 4 - 1) * 2 ^ 16 := by decide
  have e2 : (a / 65536 % 16) * 65536 = (a / 2 ^ 16 % 2 ^ 4) * 2 ^ 16 := by rfl
  rw [e2, e1, Nat.testBit_and, Nat.testBit_mul_two_pow, Nat.testBit_mul_two_pow, Nat.testBit_mod_two_pow, Nat.testBit_div_two_pow, Nat.testBit_two_pow_sub_one]
  by_cases h : 16 ≤ i
  · have : i - 16 + 16 = i := by omega
    simp [h, this, Bool.and_comm]
  · simp [h]
theorem and_zero (x : Int) (h₀ : 0 ≤ x) (h₁ : x ≤ 4294967295) : bits .and .i64 x 983040 = (x / 65536 % 16) * 65536 := by
  obtain ⟨a, rfl⟩ := Int.eq_ofNat_of_zero_le h₀
  have := (bits_nat .i64 62 (by decide) wraps62 a 983040 (by omega) (by omega)).1
  rw [show (983040 : Int) = ((983040 : Nat) : Int) from rfl, this, nat_and_zero]
  simp
theorem and_7 (x : Int) (h₀ : 0 ≤ x) (h₁ : x ≤ 4294967295) : bits .and .i64 x 7 = x % 8 := bits_mask .i64 62 (by decide) wraps62 3 (by decide) x h₀ (by omega)
theorem and_imm (x : Int) (h₀ : 0 ≤ x) (h₁ : x ≤ 4294967295) : bits .and .i64 x 65535 = x % 65536 := bits_mask .i64 62 (by decide) wraps62 16 (by decide) x h₀ (by omega)
theorem join62 (i : Nat) (x y : Int) (hx₀ : 0 ≤ x) (hx : x % 2 ^ i = 0) (hx₁ : x < 2 ^ 62) (hy₀ : 0 ≤ y) (hy : y < 2 ^ i) (hy₁ : y < 2 ^ 62) : bits .or .i64 x y = x + y :=
  bits_join .i64 62 (by decide) wraps62 i x y hx₀ hx hx₁ hy₀ hy hy₁

set_option maxHeartbeats 400000 in
theorem isWord_any (v : Int) (w : World) :
    Calls Tryz.prog 233 #[.int .i64 v] w fun e w' => e = .returned (.bool (decide (0 ≤ v ∧ v ≤ 4294967295))) ∧ w = w' := by
  go_enter Tryz.func233, Tryz.ntmps233
  go_wp2
  all_goals
    go_ret
    refine ⟨ret_bool ?_, rfl⟩
    rw [Bool.eq_iff_iff]
    simp
    try omega
set_option maxHeartbeats 400000 in
theorem isUpTo_any (v m : Int) (w : World) :
    Calls Tryz.prog 165 #[.int .i64 v, .int .i64 m] w fun e w' => e = .returned (.bool (decide (0 ≤ v ∧ v ≤ m))) ∧ w = w' := by
  go_enter Tryz.func165, Tryz.ntmps165
  go_wp2
  all_goals
    go_ret
    refine ⟨ret_bool ?_, rfl⟩
    rw [Bool.eq_iff_iff]
    simp
    try omega

theorem Blk.four' {w : World} {g : Nat} {a b c d : Value} {t : TypeId} (h : Blk w g #[a, b, c, d] t) :
    w.cell? ⟨g, 0, none⟩ = some a ∧ w.cell? ⟨g, 1, none⟩ = some b ∧ w.cell? ⟨g, 2, none⟩ = some c ∧ w.cell? ⟨g, 3, none⟩ = some d ∧ ∀ i, w.frozen? ⟨g, i, none⟩ = false :=
  ⟨by rw [h.cell]; rfl, by rw [h.cell]; rfl, by rw [h.cell]; rfl, by rw [h.cell]; rfl, fun i => h.frozen i⟩
theorem ins_set {w2 : World} {g : Nat} {x y z u : Value} (hz : Blk w2 g #[x, y, z, u] 255) (o d a i : Int) :
    Blk ((((w2.setCell ⟨g, 0, none⟩ (.int .i64 o)).setCell ⟨g, 1, none⟩ (.int .i64 d)).setCell ⟨g, 2, none⟩ (.int .i64 a)).setCell ⟨g, 3, none⟩ (.int .i64 i)) g #[.int .i64 o, .int .i64 d, .int .i64 a, .int .i64 i] 255 :=
  Blk.set (Blk.set (Blk.set (Blk.set hz 0 _) 1 _) 2 _) 3 _
theorem ins_below {B : Nat} {w w2 : World} {g : Nat} (hg : B ≤ g) (h : Below B w w2) (o d a i : Int) :
    Below B w ((((w2.setCell ⟨g, 0, none⟩ (.int .i64 o)).setCell ⟨g, 1, none⟩ (.int .i64 d)).setCell ⟨g, 2, none⟩ (.int .i64 a)).setCell ⟨g, 3, none⟩ (.int .i64 i)) :=
  (((h.setCell hg _).setCell hg _).setCell hg _).setCell hg _
/-- an instruction and a bool are returned -/
def InsPost (w : World) (o d a i : Int) (b : Bool) (e : Ending) (w' : World) : Prop := e = .returned (.tuple #[.agg #[.int .i64 o, .int .i64 d, .int .i64 a, .int .i64 i], .bool b]) ∧ Below w.heap.size w w'
theorem ret_ins {op d a i d' a' i' : Int} {b : Bool} (h1 : d = d') (h2 : a = a') (h3 : i = i') : Ending.returned (.tuple #[.agg #[.int .i64 op, .int .i64 d, .int .i64 a, .int .i64 i], .bool b]) = .returned (.tuple #[.agg #[.int .i64 op, .int .i64 d', .int .i64 a', .int .i64 i'], .bool b]) := by rw [h1, h2, h3]

end Go.Proofs.YtngdgogjlpjjpaeGreat

namespace Go.Proofs.YtngdgogjlpjjpaeGreat
open Go.RowKit
set_option linter.unusedVariables false
set_option linter.unusedSimpArgs false
set_option maxRecDepth 100000

/-- ALL ARE WORDS. -/
def wds (zs : List Int) : Bool := zs.all fun z => decide (0 ≤ z ∧ z ≤ 4294967295)
theorem wds_bad (zs : List Int) (k : Nat) (hk : k < zs.length) (h : ¬ (0 ≤ zs.getD k 0 ∧ zs.getD k 0 ≤ 4294967295)) : wds zs = false := by
  unfold wds
  rw [List.all_eq_false]
  refine ⟨zs[k], List.getElem_mem _, ?_⟩
  have : zs.getD k 0 = zs[k] := by simp [List.getD_eq_getElem?_getD, hk]
  rw [this] at h
  simpa using h
theorem wds_good (zs : List Int) (h : ∀ j, j < zs.length → 0 ≤ zs.getD j 0 ∧ zs.getD j 0 ≤ 4294967295) : wds zs = true := by
  unfold wds
  rw [List.all_eq_true]
  intro z hz
  obtain ⟨i, hi, rfl⟩ := List.getElem_of_mem hz
  have := h i hi
  rw [show zs.getD i 0 = zs[i] by simp [List.getD_eq_getElem?_getD, hi]] at this
  simpa using this

set_option maxHeartbeats 1000000 in
theorem l4Words_any (a : Option Addr) (n cap : Nat) (zs : List Int) (w : World) (h : IS w a n cap zs) :
    Calls Tryz.prog 250 #[.slice a n cap] w fun e w' => e = .returned (.bool (wds zs)) ∧ w = w' := by
  have hl := h.1
  have hmx := h.2.1
  unfold maxLen at hmx
  go_enter Tryz.func250, Tryz.ntmps250
  go_wp2_with fail
  go_loop [3] (fun i => ∃ k : Nat, k ≤ n ∧ i = .int .i64 k ∧ Hid (∀ j, j < k → 0 ≤ zs.getD j 0 ∧ zs.getD j 0 ≤ 4294967295)) (fun i => n - (intOf i).toNat)
  case atStart => exact ⟨0, Nat.zero_le _, rfl, hide (fun j hj => by omega)⟩
  case round =>
    obtain ⟨k, hk, rfl, HJ⟩ := hrel
    by_cases hlt : k < n
    · have hlt' : (k : Int) < (n : Int) := by omega
      obtain ⟨b, off, rfl⟩ := h.addr (by omega)
      have hck := h.at k hlt
      have HZ := hide (wds_bad zs k (by omega))
      have HG := hide (show 0 ≤ zs.getD k 0 ∧ zs.getD k 0 ≤ 4294967295 → ∀ j, j < k + 1 → 0 ≤ zs.getD j 0 ∧ zs.getD j 0 ≤ 4294967295 from fun h j hj => by
        by_cases e : j = k
        · subst e; exact h
        · exact HJ.out j (by omega))
      generalize zs.getD k 0 = z at *
      by_cases c1 : z < 0
      · go_wp2
        go_ret
        exact ⟨ret_bool (HZ.out (by omega)).symm, rfl⟩
      · by_cases c2 : 4294967295 < z
        · go_wp2
          go_ret
          exact ⟨ret_bool (HZ.out (by omega)).symm, rfl⟩
        · go_wp2
          go_round
          case rel => exact ⟨k + 1, by omega, by go_num, hide (HG.out (by omega))⟩
          case measure => simp [intOf]; omega
    · have HE := hide (wds_good zs (fun j hj => HJ.out j (by omega)))
      go_wp2
      go_ret
      exact ⟨ret_bool HE.out.symm, rfl⟩

set_option maxHeartbeats 1000000 in
theorem areWords_any (a : Option Addr) (n cap : Nat) (zs : List Int) (w : World) (h : IS w a n cap zs) :
    Calls Tryz.prog 280 #[.slice a n cap] w fun e w' => e = .returned (.bool (wds zs)) ∧ w = w' := by
  have hl := h.1
  have hmx := h.2.1
  unfold maxLen at hmx
  have HIW := hide (fun v w => isWord_any v w)
  go_enter Tryz.func280, Tryz.ntmps280
  go_wp2_with fail
  go_loop [7] (fun i => ∃ k : Nat, k ≤ n ∧ i = .int .i64 k ∧ Hid (∀ j, j < k → 0 ≤ zs.getD j 0 ∧ zs.getD j 0 ≤ 4294967295)) (fun i => n - (intOf i).toNat)
  case atStart => exact ⟨0, Nat.zero_le _, rfl, hide (fun j hj => by omega)⟩
  case round =>
    obtain ⟨k, hk, rfl, HJ⟩ := hrel
    by_cases hlt : k < n
    · have hlt' : (k : Int) < (n : Int) := by omega
      obtain ⟨b, off, rfl⟩ := h.addr (by omega)
      have hck := h.at k hlt
      have HZ := hide (wds_bad zs k (by omega))
      have HG := hide (show 0 ≤ zs.getD k 0 ∧ zs.getD k 0 ≤ 4294967295 → ∀ j, j < k + 1 → 0 ≤ zs.getD j 0 ∧ zs.getD j 0 ≤ 4294967295 from fun h j hj => by
        by_cases e : j = k
        · subst e; exact h
        · exact HJ.out j (by omega))
      generalize zs.getD k 0 = z at *
      have HW := hide (HIW.out z)
      by_cases c1 : 0 ≤ z ∧ z ≤ 4294967295
      · rw [decide_eq_true c1] at HW
        go_wp2_with (go_at_call 233; refine (HW.out _).mono ?_; rintro e w1 ⟨rfl, rfl⟩)
        go_round
        case rel => exact ⟨k + 1, by omega, by go_num, hide (HG.out c1)⟩
        case measure => simp [intOf]; omega
      · rw [decide_eq_false c1] at HW
        go_wp2_with (go_at_call 233; refine (HW.out _).mono ?_; rintro e w1 ⟨rfl, rfl⟩)
        go_ret
        exact ⟨ret_bool (HZ.out c1).symm, rfl⟩
    · have HE := hide (wds_good zs (fun j hj => HJ.out j (by omega)))
      go_wp2
      go_ret
      exact ⟨ret_bool HE.out.symm, rfl⟩
end Go.Proofs.YtngdgogjlpjjpaeGreat
