import Derived.Deep.RegionHeld3
import Derived.Test.YtngdgogjlpjjpacP00
import Derived.Test.YtngdgogjlpjjpacP01
import Derived.Test.YtngdgogjlpjjpacP03
import Derived.Test.YtngdgogjlpjjpacP04
namespace Go.Proofs.Ytngdgogjlpjjpac
open Go.RowKit
set_option linter.unusedVariables false
theorem okI_bounds {op d a i : Int} (h : okI op d a i = true) : 1 ≤ op ∧ op ≤ 25 ∧ 0 ≤ d ∧ d ≤ 7 ∧ 0 ≤ a ∧ a ≤ 7 ∧ 0 ≤ i ∧ i ≤ 65535 := by
  unfold okI okU at h
  simp at h
  obtain ⟨h0, h1, h2, h3, h4, h5, h6⟩ := h
  have hx : mD (us op) ≤ 7 := by unfold mD; split <;> omega
  have hy : mA (us op) ≤ 7 := by unfold mA; split <;> omega
  have hz : mI (us op) ≤ 65535 := by unfold mI; split <;> omega
  by_cases ho : op ≤ 0 ∨ 26 ≤ op
  · rw [us_out op ho] at h0
    omega
  · omega
def enc (op d a i : Int) : Int := op * 67108864 + d * 8388608 + a * 1048576 + i
def encV (op d a i : Int) : Int := if okI op d a i then enc op d a i else 0
set_option maxHeartbeats 1000000 in
theorem sEncode_any (op d a i : Int) (w : World) :
    Calls Try.prog 154 #[.agg #[.int .i64 op, .int .i64 d, .int .i64 a, .int .i64 i]] w fun e w' => e = .returned (.tuple #[.int .i64 (encV op d a i), .bool (okI op d a i)]) ∧ Below w.heap.size w w' := by
  have kb := Blk.new w #[.int .i64 op, .int .i64 d, .int .i64 a, .int .i64 i] 162
  have hB0 : Below w.heap.size w (w.alloc (.cells #[.int .i64 op, .int .i64 d, .int .i64 a, .int .i64 i] 162)) := (Below.refl _ _).alloc (Nat.le_refl _) _
  have HI := hide (l3InsOk_any op d a i)
  unfold encV
  cases hk : okI op d a i
  · rw [hk] at HI
    clear hk
    rw [if_neg (by simp)]
    go_enter Try.func154, Try.ntmps154
    go_wp2_with fail
    refine (HI.out _).mono ?_
    rintro e w1 ⟨rfl, hb1⟩
    go_wp2
    go_ret2
    exact ⟨rfl, hB0.trans (hb1.mono (by simp))⟩
  · obtain ⟨h1, h2, h3, h4, h5, h6, h7, h8⟩ := okI_bounds hk
    rw [hk] at HI
    clear hk
    rw [if_pos rfl]
    unfold enc
    go_enter Try.func154, Try.ntmps154
    go_wp2_with fail
    refine (HI.out _).mono ?_
    rintro e w1 ⟨rfl, hb1⟩
    obtain ⟨p1, p2, p3, p4, p5⟩ := (kb.below hb1).four'
    go_wp2
    go_ret2
    exact ⟨rfl, hB0.trans (hb1.mono (by simp))⟩
structure Rdr (W : World) (r : Nat) (a : Option Addr) (n c : Nat) (zs : List Int) (k : Nat) : Prop where
  blk : Blk W r #[.slice a n c, .int .i64 ((min k n : Nat) : Int)] 126
  bs : BS W a n c zs
  small : n ≤ 1000
  far : n ≠ 0 → ∀ b off, a = some ⟨b, off, none⟩ → b ≠ r
theorem rdr_below {W W' : World} {r : Nat} {a : Option Addr} {n c : Nat} {zs : List Int} {k : Nat} (h : Rdr W r a n c zs k) (hb : Below W.heap.size W W') : Rdr W' r a n c zs k := ⟨h.blk.below hb, h.bs.below hb, h.small, h.far⟩
theorem Blk.two {w : World} {g : Nat} {a b : Value} {t : TypeId} (h : Blk w g #[a, b] t) : w.cell? ⟨g, 0, none⟩ = some a ∧ w.cell? ⟨g, 1, none⟩ = some b ∧ ∀ i, w.frozen? ⟨g, i, none⟩ = false :=
  ⟨by rw [h.cell]; rfl, by rw [h.cell]; rfl, fun i => h.frozen i⟩
theorem turn_bs' {S : Nat → Prop} {w w' : World} {a : Option Addr} {n cap : Nat} {zs : List Int} (ht : Turn S w w') (h : BS w a n cap zs) (hk : n ≠ 0 → ∀ k, S k → ∀ b off, a = some ⟨b, off, none⟩ → b ≠ k) : BS w' a n cap zs := by
  by_cases hn : n = 0
  · exact ⟨h.1, h.2.1, h.2.2.1, fun e => absurd hn e, h.2.2.2.2⟩
  · exact turn_bs ht h (hk hn)
theorem turn_cell (w : World) (r i : Nat) (v : Value) : Turn (fun j => j = r) w (w.setCell ⟨r, i, none⟩ v) := ⟨rfl, rfl, rfl, by rw [size_setCell]; exact Nat.le_refl _, fun j hj hn => heap_setCell_other _ _ _ _ hn⟩
set_option maxHeartbeats 1000000 in
theorem l1Open_any (a : Option Addr) (n c n' : Nat) (zs : List Int) (w : World) (h : BS w a n c zs) (hn' : n' = min n 1000) :
    Calls Try.prog 38 #[.slice a n c] w fun e w' => e = .returned (.pointer (some ⟨w.heap.size, 0, none⟩)) ∧ Rdr w' w.heap.size a n' c (zs.take 1000) 0 ∧ Below w.heap.size w w' := by
  have hm := h.2.1
  unfold maxLen at hm
  have hl := h.1
  have hcap := h.2.2.2.2
  have hB : ∀ o, Below w.heap.size w (w.alloc o) := fun o => (Below.refl _ _).alloc (Nat.le_refl _) _
  have hfar : n ≠ 0 → ∀ b off, a = some ⟨b, off, none⟩ → b < w.heap.size := by
    intro hn b off e
    subst e
    exact World.block_lt_of_cell? w _ (h.at 0 (by omega))
  have HFAR := hide hfar
  clear hfar
  by_cases hn : (1000 : Int) < (n : Int)
  · obtain ⟨b, off, rfl⟩ := h.some (by omega)
    have h' := (h.take 1000 (by omega))
    have hn1 : n' = 1000 := by omega
    subst hn1
    clear hn'
    go_enter Try.func38, Try.ntmps38
    go_wp2
    go_ret
    exact ⟨rfl, ⟨Blk.new w _ _, h'.below (hB _), Nat.le_refl _, fun _ b' off' e => by have := HFAR.out (by omega) b' off' e; omega⟩, hB _⟩
  · have ht : zs.take 1000 = zs := List.take_of_length_le (by omega)
    rw [ht]
    have hn1 : n' = n := by omega
    subst hn1
    clear hn' ht
    have HB := hide hB
    have H := hide h
    clear hB h
    go_enter Try.func38, Try.ntmps38
    go_wp2
    go_ret
    exact ⟨rfl, ⟨by rw [Nat.zero_min]; exact Blk.new w _ _, H.out.below (HB.out _), by omega, fun h0 b' off' e => by have := HFAR.out h0 b' off' e; omega⟩, HB.out _⟩
set_option maxHeartbeats 1000000 in
theorem next_any (r : Nat) (a : Option Addr) (n c : Nat) (zs : List Int) (k : Nat) (w : World) (h : Rdr w r a n c zs k) :
    Calls Try.prog 41 #[.pointer (some ⟨r, 0, none⟩)] w fun e w' => e = .returned (.int .i64 (zs.getD k 0)) ∧ Rdr w' r a n c zs (k + 1) ∧ Turn (fun j => j = r) w w' := by
  obtain ⟨q1, q2, q3⟩ := h.blk.two
  have hs := h.small
  have hl := h.bs.1
  by_cases hlt : k < n
  · have e1 : min k n = k := by omega
    rw [e1] at q2
    have hlt' : (k : Int) < (n : Int) := by omega
    obtain ⟨b, off, rfl⟩ := h.bs.some (by omega)
    have hc := h.bs.at k hlt
    have hr := h.bs.range k
    have hfin : Rdr (w.setCell ⟨r, 1, none⟩ (.int .i64 ((k : Int) + 1))) r (some ⟨b, off, none⟩) n c zs (k + 1) := by
      refine ⟨?_, ?_, hs, h.far⟩
      · have := h.blk.set 1 (.int .i64 ((k : Int) + 1))
        rw [show (min (k + 1) n) = k + 1 by omega]
        simpa using this
      · refine turn_bs' (turn_cell w r 1 _) h.bs ?_
        intro h0 j hj b' off' e
        subst hj
        exact h.far h0 b' off' e
    have HF := hide hfin
    have HT := hide (turn_cell w r 1 (.int .i64 ((k : Int) + 1)))
    clear hfin h e1
    generalize zs.getD k 0 = z at *
    obtain ⟨z0, z1⟩ := hr
    go_enter Try.func41, Try.ntmps41
    go_wp2
    go_quiet (fail)
    go_wp2
    go_quiet (fail)
    go_wp2
    go_ret
    exact ⟨rfl, ⟨HF.out.blk, HF.out.bs, HF.out.small, HF.out.far⟩, ⟨HT.out.os, HT.out.tape, HT.out.output, HT.out.size, HT.out.block⟩⟩
  · have e1 : min k n = n := by omega
    rw [e1] at q2
    have e0 : zs.getD k 0 = 0 := by simp [List.getD_eq_getElem?_getD, show zs.length ≤ k by omega]
    have hfin : Rdr w r a n c zs (k + 1) := ⟨by rw [show min (k + 1) n = min k n by omega]; exact h.blk, h.bs, hs, h.far⟩
    have HF := hide hfin
    rw [e0]
    have hd : ((n : Int) < (n : Int)) = False := by simp
    clear hfin h e1 e0
    go_enter Try.func41, Try.ntmps41
    go_wp2
    go_quiet (fail)
    go_wp2
    go_ret
    exact ⟨rfl, ⟨HF.out.blk, HF.out.bs, HF.out.small, HF.out.far⟩, ⟨rfl, rfl, rfl, Nat.le_refl _, fun _ _ _ => rfl⟩⟩
theorem next_is (r : Nat) (a : Option Addr) (n c : Nat) (zs : List Int) (k : Nat) (v : Int) (w : World) (h : Rdr w r a n c zs k) (hv : Hid (zs.getD k 0 = v)) :
    Calls Try.prog 41 #[.pointer (some ⟨r, 0, none⟩)] w fun e w' => e = .returned (.int .i64 v) ∧ Rdr w' r a n c zs (k + 1) ∧ Turn (fun j => j = r) w w' :=
  (next_any r a n c zs k w h).mono fun e w' he => ⟨by rw [he.1, hv.out], he.2⟩
def hs (b l o a : Int) : Bool := decide (b ≤ a ∧ a < b + (2:Int)^l.toNat ∧ (o / (2:Int)^((a - b) / ((2:Int)^l.toNat / 8)).toNat) % 2 = 0)
theorem wrap_i64 {n : Int} (h0 : -9223372036854775808 ≤ n) (h1 : n ≤ 9223372036854775807) : IntKind.i64.wrap n = n := by
  simp only [IntKind.wrap, IntKind.bits, IntKind.signed]
  simp
  omega
theorem rdr_turn {S : Nat → Prop} {W W' : World} {r : Nat} {a : Option Addr} {n c : Nat} {zs : List Int} {k : Nat} (h : Rdr W r a n c zs k) (t : Turn S W W') (hr : ¬ S r) (ha : n ≠ 0 → ∀ j, S j → ∀ b off, a = some ⟨b, off, none⟩ → b ≠ j) : Rdr W' r a n c zs k :=
  ⟨turn_blk t h.blk hr, turn_bs' t h.bs ha, h.small, h.far⟩
theorem turn_new {S : Nat → Prop} {w W : World} (h : Turn S w W) {b : Nat} (hb : w.heap.size ≤ b) (i : Nat) (v : Value) : Turn S w (W.setCell ⟨b, i, none⟩ v) :=
  ⟨h.os, h.tape, h.output, by rw [size_setCell]; exact h.size, fun k hk hn => by rw [heap_setCell_other _ _ _ _ (by dsimp only; omega)]; exact h.block k hk hn⟩
theorem turn_more {S : Nat → Prop} {w W : World} (h : Turn S w W) (o : Obj) : Turn S w (W.alloc o) := h.trans (turn_alloc W o)
theorem rdr_set {W : World} {r : Nat} {a : Option Addr} {n c : Nat} {zs : List Int} {k : Nat} (h : Rdr W r a n c zs k) {b : Nat} (hb : r ≠ b) (ha : n ≠ 0 → ∀ b' off, a = some ⟨b', off, none⟩ → b' ≠ b) (i : Nat) (v : Value) : Rdr (W.setCell ⟨b, i, none⟩ v) r a n c zs k :=
  rdr_turn h (turn_cell W b i v) hb (fun h0 j hj b' off e => by subst hj; exact ha h0 b' off e)
theorem rdr_alloc {W : World} {r : Nat} {a : Option Addr} {n c : Nat} {zs : List Int} {k : Nat} (h : Rdr W r a n c zs k) (o : Obj) : Rdr (W.alloc o) r a n c zs k := rdr_below h ((Below.refl _ _).alloc (Nat.le_refl _) o)
end Go.Proofs.Ytngdgogjlpjjpac
namespace Go.Proofs.Ytngdgogjlpjjpac
open Go.RowKit
set_option linter.unusedVariables false
set_option linter.unusedSimpArgs false
def InsDr (w : World) (r : Nat) (a : Option Addr) (n c : Nat) (zs : List Int) (o d x i : Int) (k' : Nat) (e : Ending) (w' : World) : Prop :=
  e = .returned (.agg #[.int .i64 o, .int .i64 d, .int .i64 x, .int .i64 i]) ∧ Rdr w' r a n c zs k' ∧ Turn (fun j => j = r) w w'
theorem draw_of {zs : List Int} (h : ∀ j, 0 ≤ zs.getD j 0 ∧ zs.getD j 0 ≤ 255) (k : Nat) : ∃ v : Int, Hid (zs.getD k 0 = v) ∧ 0 ≤ v ∧ v ≤ 255 := ⟨_, rfl, (h k).1, (h k).2⟩
theorem opTab_at (i : Nat) (hi : i < 25) : ∃ o : Int, 1 ≤ o ∧ o ≤ 25 ∧ ∀ W : World, (W.alloc (.cells #[.int .i64 2, .int .i64 6, .int .i64 15, .int .i64 16, .int .i64 19, .int .i64 20, .int .i64 21, .int .i64 22, .int .i64 23, .int .i64 24, .int .i64 25, .int .i64 1, .int .i64 3, .int .i64 4, .int .i64 5, .int .i64 7, .int .i64 8, .int .i64 9, .int .i64 10, .int .i64 11, .int .i64 12, .int .i64 13, .int .i64 14, .int .i64 17, .int .i64 18] 3)).cell? ⟨W.heap.size, i, none⟩ = some (.int .i64 o) := by
  have hc := fun W => (Blk.new W #[.int .i64 2, .int .i64 6, .int .i64 15, .int .i64 16, .int .i64 19, .int .i64 20, .int .i64 21, .int .i64 22, .int .i64 23, .int .i64 24, .int .i64 25, .int .i64 1, .int .i64 3, .int .i64 4, .int .i64 5, .int .i64 7, .int .i64 8, .int .i64 9, .int .i64 10, .int .i64 11, .int .i64 12, .int .i64 13, .int .i64 14, .int .i64 17, .int .i64 18] 3).cell i
  match i, hi with
  | 0, _ => exact ⟨_, by decide, by decide, hc⟩
  | 1, _ => exact ⟨_, by decide, by decide, hc⟩
  | 2, _ => exact ⟨_, by decide, by decide, hc⟩
  | 3, _ => exact ⟨_, by decide, by decide, hc⟩
  | 4, _ => exact ⟨_, by decide, by decide, hc⟩
  | 5, _ => exact ⟨_, by decide, by decide, hc⟩
  | 6, _ => exact ⟨_, by decide, by decide, hc⟩
  | 7, _ => exact ⟨_, by decide, by decide, hc⟩
  | 8, _ => exact ⟨_, by decide, by decide, hc⟩
  | 9, _ => exact ⟨_, by decide, by decide, hc⟩
  | 10, _ => exact ⟨_, by decide, by decide, hc⟩
  | 11, _ => exact ⟨_, by decide, by decide, hc⟩
  | 12, _ => exact ⟨_, by decide, by decide, hc⟩
  | 13, _ => exact ⟨_, by decide, by decide, hc⟩
  | 14, _ => exact ⟨_, by decide, by decide, hc⟩
  | 15, _ => exact ⟨_, by decide, by decide, hc⟩
  | 16, _ => exact ⟨_, by decide, by decide, hc⟩
  | 17, _ => exact ⟨_, by decide, by decide, hc⟩
  | 18, _ => exact ⟨_, by decide, by decide, hc⟩
  | 19, _ => exact ⟨_, by decide, by decide, hc⟩
  | 20, _ => exact ⟨_, by decide, by decide, hc⟩
  | 21, _ => exact ⟨_, by decide, by decide, hc⟩
  | 22, _ => exact ⟨_, by decide, by decide, hc⟩
  | 23, _ => exact ⟨_, by decide, by decide, hc⟩
  | 24, _ => exact ⟨_, by decide, by decide, hc⟩
  | i + 25, h => omega
theorem aTab_at (i : Nat) (hi : i < 8) : ∃ o : Int, 0 ≤ o ∧ o ≤ 7 ∧ ∀ W : World, (W.alloc (.cells #[.int .i64 7, .int .i64 6, .int .i64 0, .int .i64 1, .int .i64 2, .int .i64 7, .int .i64 6, .int .i64 3] 3)).cell? ⟨W.heap.size, i, none⟩ = some (.int .i64 o) := by
  have hc := fun W => (Blk.new W #[.int .i64 7, .int .i64 6, .int .i64 0, .int .i64 1, .int .i64 2, .int .i64 7, .int .i64 6, .int .i64 3] 3).cell i
  match i, hi with
  | 0, _ => exact ⟨_, by decide, by decide, hc⟩
  | 1, _ => exact ⟨_, by decide, by decide, hc⟩
  | 2, _ => exact ⟨_, by decide, by decide, hc⟩
  | 3, _ => exact ⟨_, by decide, by decide, hc⟩
  | 4, _ => exact ⟨_, by decide, by decide, hc⟩
  | 5, _ => exact ⟨_, by decide, by decide, hc⟩
  | 6, _ => exact ⟨_, by decide, by decide, hc⟩
  | 7, _ => exact ⟨_, by decide, by decide, hc⟩
  | i + 8, h => omega
structure Is (w W : World) (r : Nat) (a : Option Addr) (n c : Nat) (zs : List Int) (k' G : Nat) (o d x i : Int) : Prop where
  res : Blk W w.heap.size #[.int .i64 0, .int .i64 0, .int .i64 0, .int .i64 0] 162
  ins : Blk W G #[.int .i64 o, .int .i64 d, .int .i64 x, .int .i64 i] 162
  rd : Rdr W r a n c zs k'
  turn : Turn (fun j => j = r) w W
  big : w.heap.size < G
  low : r < w.heap.size
  code : n ≠ 0 → ∀ b off, a = some ⟨b, off, none⟩ → b < w.heap.size
theorem Is.other {w W : World} {r : Nat} {a : Option Addr} {n c : Nat} {zs : List Int} {k' G : Nat} {o d x i : Int} (h : Is w W r a n c zs k' G o d x i) (j : Nat) (v : Value) (d' x' i' : Int) (hz : Blk (W.setCell ⟨G, j, none⟩ v) G #[.int .i64 o, .int .i64 d', .int .i64 x', .int .i64 i'] 162) : Is w (W.setCell ⟨G, j, none⟩ v) r a n c zs k' G o d' x' i' := by
  have hb := h.big
  have hl := h.low
  exact ⟨h.res.other _ _ (by dsimp only; omega), hz, rdr_set h.rd (by omega) (fun h0 b off e => by have := h.code h0 b off e; omega) _ _, turn_new h.turn (by omega) _ _, hb, hl, h.code⟩
theorem Is.set1 {w W : World} {r : Nat} {a : Option Addr} {n c : Nat} {zs : List Int} {k' G : Nat} {o d x i : Int} (h : Is w W r a n c zs k' G o d x i) (v : Int) : Is w (W.setCell ⟨G, 1, none⟩ (.int .i64 v)) r a n c zs k' G o v x i := h.other 1 _ v x i (h.ins.set 1 (.int .i64 v))
theorem Is.set2 {w W : World} {r : Nat} {a : Option Addr} {n c : Nat} {zs : List Int} {k' G : Nat} {o d x i : Int} (h : Is w W r a n c zs k' G o d x i) (v : Int) : Is w (W.setCell ⟨G, 2, none⟩ (.int .i64 v)) r a n c zs k' G o d v i := h.other 2 _ d v i (h.ins.set 2 (.int .i64 v))
theorem Is.set3 {w W : World} {r : Nat} {a : Option Addr} {n c : Nat} {zs : List Int} {k' G : Nat} {o d x i : Int} (h : Is w W r a n c zs k' G o d x i) (v : Int) : Is w (W.setCell ⟨G, 3, none⟩ (.int .i64 v)) r a n c zs k' G o d x v := h.other 3 _ d x v (h.ins.set 3 (.int .i64 v))
theorem Is.more {w W : World} {r : Nat} {a : Option Addr} {n c : Nat} {zs : List Int} {k' G : Nat} {o d x i : Int} (h : Is w W r a n c zs k' G o d x i) (O : Obj) : Is w (W.alloc O) r a n c zs k' G o d x i :=
  ⟨h.res.alloc O, h.ins.alloc O, rdr_alloc h.rd O, turn_more h.turn O, h.big, h.low, h.code⟩
theorem Is.next {w W W' : World} {r : Nat} {a : Option Addr} {n c : Nat} {zs : List Int} {k' k2 G : Nat} {o d x i : Int} (h : Is w W r a n c zs k' G o d x i) (hr : Rdr W' r a n c zs k2) (t : Turn (fun j => j = r) W W') : Is w W' r a n c zs k2 G o d x i := by
  have hb := h.big
  have hl := h.low
  exact ⟨turn_blk t h.res (by omega), turn_blk t h.ins (by omega), hr, h.turn.trans t, hb, hl, h.code⟩
theorem Is.done {w W : World} {r : Nat} {a : Option Addr} {n c : Nat} {zs : List Int} {k' G : Nat} {o d x i : Int} (h : Is w W r a n c zs k' G o d x i) (fn : Func) (hf : fn.results = #[.cell 2 162]) (tmps : Array Value) (h2 : tmps[2]? = some (.pointer (some ⟨w.heap.size, 0, none⟩))) (hb : -1 ≤ o ∧ o ≤ 64 ∧ -1 ≤ d ∧ d ≤ 10 ∧ -1 ≤ x ∧ x ≤ 10 ∧ -1 ≤ i ∧ i ≤ 65536) :
    bodyPost Try.prog fn (InsDr w r a n c zs o d x i k') Exit.ret ⟨tmps, []⟩ ((((W.setCell ⟨w.heap.size, 0, none⟩ (.int .i64 o)).setCell ⟨w.heap.size, 1, none⟩ (.int .i64 d)).setCell ⟨w.heap.size, 2, none⟩ (.int .i64 x)).setCell ⟨w.heap.size, 3, none⟩ (.int .i64 i)) := by
  have hl := h.low
  have hc' : n ≠ 0 → ∀ b' off, a = some ⟨b', off, none⟩ → b' ≠ w.heap.size := fun h0 b off e => by have := h.code h0 b off e; omega
  have hz := ins_set h.res o d x i
  have hR := rdr_set (rdr_set (rdr_set (rdr_set h.rd (show r ≠ w.heap.size by omega) hc' 0 (.int .i64 o)) (by omega) hc' 1 (.int .i64 d)) (by omega) hc' 2 (.int .i64 x)) (by omega) hc' 3 (.int .i64 i)
  have hT := turn_new (turn_new (turn_new (turn_new h.turn (Nat.le_refl _) 0 (.int .i64 o)) (Nat.le_refl _) 1 (.int .i64 d)) (Nat.le_refl _) 2 (.int .i64 x)) (Nat.le_refl _) 3 (.int .i64 i)
  generalize (((W.setCell ⟨w.heap.size, 0, none⟩ (.int .i64 o)).setCell ⟨w.heap.size, 1, none⟩ (.int .i64 d)).setCell ⟨w.heap.size, 2, none⟩ (.int .i64 x)).setCell ⟨w.heap.size, 3, none⟩ (.int .i64 i) = V at *
  refine bodyPost_ret (v := .agg #[.int .i64 o, .int .i64 d, .int .i64 x, .int .i64 i]) ?_ rfl ⟨rfl, hR, hT⟩
  obtain ⟨p1, p2, p3, p4, p5⟩ := hz.four'
  simp [results, hf, go_sem, h2, p1, p2, p3, p4]
theorem Is.doneA {w W : World} {r : Nat} {a : Option Addr} {n c : Nat} {zs : List Int} {k' G : Nat} {o d x i : Int} (h : Is w W r a n c zs k' G o d x i) (fn : Func) (hf : fn.results = #[.cell 2 162]) (O : Obj) (tmps : Array Value) (h2 : tmps[2]? = some (.pointer (some ⟨w.heap.size, 0, none⟩))) (hb : -1 ≤ o ∧ o ≤ 64 ∧ -1 ≤ d ∧ d ≤ 10 ∧ -1 ≤ x ∧ x ≤ 10 ∧ -1 ≤ i ∧ i ≤ 65536) :
    bodyPost Try.prog fn (InsDr w r a n c zs o d x i k') Exit.ret ⟨tmps, []⟩ (((((W.setCell ⟨w.heap.size, 0, none⟩ (.int .i64 o)).setCell ⟨w.heap.size, 1, none⟩ (.int .i64 d)).setCell ⟨w.heap.size, 2, none⟩ (.int .i64 x)).setCell ⟨w.heap.size, 3, none⟩ (.int .i64 i)).alloc O) := by
  have hl := h.low
  have hc' : n ≠ 0 → ∀ b' off, a = some ⟨b', off, none⟩ → b' ≠ w.heap.size := fun h0 b off e => by have := h.code h0 b off e; omega
  have hz := (ins_set h.res o d x i).alloc O
  have hR := rdr_alloc (rdr_set (rdr_set (rdr_set (rdr_set h.rd (show r ≠ w.heap.size by omega) hc' 0 (.int .i64 o)) (by omega) hc' 1 (.int .i64 d)) (by omega) hc' 2 (.int .i64 x)) (by omega) hc' 3 (.int .i64 i)) O
  have hT := turn_more (turn_new (turn_new (turn_new (turn_new h.turn (Nat.le_refl _) 0 (.int .i64 o)) (Nat.le_refl _) 1 (.int .i64 d)) (Nat.le_refl _) 2 (.int .i64 x)) (Nat.le_refl _) 3 (.int .i64 i)) O
  generalize ((((W.setCell ⟨w.heap.size, 0, none⟩ (.int .i64 o)).setCell ⟨w.heap.size, 1, none⟩ (.int .i64 d)).setCell ⟨w.heap.size, 2, none⟩ (.int .i64 x)).setCell ⟨w.heap.size, 3, none⟩ (.int .i64 i)).alloc O = V at *
  refine bodyPost_ret (v := .agg #[.int .i64 o, .int .i64 d, .int .i64 x, .int .i64 i]) ?_ rfl ⟨rfl, hR, hT⟩
  obtain ⟨p1, p2, p3, p4, p5⟩ := hz.four'
  simp [results, hf, go_sem, h2, p1, p2, p3, p4]
end Go.Proofs.Ytngdgogjlpjjpac
