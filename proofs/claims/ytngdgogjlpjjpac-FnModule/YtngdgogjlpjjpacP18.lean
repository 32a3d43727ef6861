import Derived.Test.YtngdgogjlpjjpacP16
import Derived.Test.YtngdgogjlpjjpacP08
import Derived.Test.YtngdgogjlpjjpacP17
namespace Go.Proofs.Ytngdgogjlpjjpac
open Go.RowKit
set_option linter.unusedVariables false
def bt (v : Int) (j : Nat) : Int := v / (256:Int)^j % 256
def putW (w : World) (g k : Nat) (v : Int) : Nat → World
  | 0 => w
  | j + 1 => (putW w g k v j).setCell ⟨g, k + j, none⟩ (.int .u8 (bt v j))
def put (zs : List Int) (k : Nat) (v : Int) : Nat → List Int
  | 0 => zs
  | j + 1 => (put zs k v j).set (k + j) (bt v j)
theorem bt_range (v : Int) (j : Nat) : 0 ≤ bt v j ∧ bt v j ≤ 255 := by unfold bt; omega
def Room (w : World) (g n : Nat) : Prop := ∃ cur, Blk w g cur 5 ∧ n ≤ cur.size
theorem Room.cell {w : World} {g n : Nat} (h : Room w g n) (i : Nat) (hi : i < n) : ∃ u, w.cell? ⟨g, i, none⟩ = some u := by
  obtain ⟨cur, hb, hn⟩ := h
  rw [hb.cell]
  exact ⟨cur[i], by simp⟩
theorem Room.frozen {w : World} {g n : Nat} (h : Room w g n) (i : Nat) : w.frozen? ⟨g, i, none⟩ = false := by
  obtain ⟨cur, hb, hn⟩ := h
  exact hb.frozen i
theorem Room.set {w : World} {g n : Nat} (h : Room w g n) (i : Nat) (u : Value) : Room (w.setCell ⟨g, i, none⟩ u) g n := by
  obtain ⟨cur, hb, hn⟩ := h
  exact ⟨_, hb.set i u, by simpa using hn⟩
theorem Room.put {w : World} {g n : Nat} (h : Room w g n) (k : Nat) (v : Int) : ∀ j, Room (putW w g k v j) g n
  | 0 => h
  | j + 1 => (Room.put h k v j).set (k + j) _
def putD4 (w : World) (g k : Nat) (v : Int) : World :=
  (((w.setCell ⟨g, k + 3, none⟩ (.int .u8 (bt v 3))).setCell ⟨g, k + 2, none⟩ (.int .u8 (bt v 2))).setCell ⟨g, k + 1, none⟩ (.int .u8 (bt v 1))).setCell ⟨g, k, none⟩ (.int .u8 (bt v 0))
def putD2 (w : World) (g k : Nat) (v : Int) : World := (w.setCell ⟨g, k + 1, none⟩ (.int .u8 (bt v 1))).setCell ⟨g, k, none⟩ (.int .u8 (bt v 0))
def putD1 (w : World) (g k : Nat) (v : Int) : World := w.setCell ⟨g, k, none⟩ (.int .u8 (bt v 0))
theorem bt0 (v : Int) : bt v 0 = v % 256 := by unfold bt; simp
theorem bt1 (v : Int) : bt v 1 = v / 256 % 256 := by unfold bt; simp
theorem bt2 (v : Int) : bt v 2 = v / 65536 % 256 := by unfold bt; rw [show (256:Int)^2 = 65536 from rfl]
theorem bt3 (v : Int) : bt v 3 = v / 16777216 % 256 := by unfold bt; rw [show (256:Int)^3 = 16777216 from rfl]
set_option maxHeartbeats 1000000 in
theorem putBytes_4 (g n cap k : Nat) (v : Int) (w : World) (h : Room w g (k + 4)) (hn : 4 ≤ n) (hv : -9223372036854775808 ≤ v ∧ v ≤ 9223372036854775807) :
    Calls Try.prog 111 #[.slice (some ⟨g, k, none⟩) n cap, .int .i64 4, .int .i64 v] w fun e w' => e = .returned (.tuple #[]) ∧ w' = putD4 w g k v := by
  obtain ⟨u0, c0⟩ := h.cell k (by omega)
  obtain ⟨u1, c1⟩ := h.cell (k + 1) (by omega)
  obtain ⟨u2, c2⟩ := h.cell (k + 2) (by omega)
  obtain ⟨u3, c3⟩ := h.cell (k + 3) (by omega)
  have hf : ∀ i, w.frozen? ⟨g, i, none⟩ = false := h.frozen
  have hl : (3 : Int) < (n : Int) := by omega
  obtain ⟨hv0, hv1⟩ := hv
  have HP := hide (show putD4 w g k v = putD4 w g k v from rfl)
  unfold putD4
  rw [bt3, bt2, bt1, bt0]
  go_enter Try.func111, Try.ntmps111
  go_wp2
  go_end0
  exact ⟨rfl, rfl⟩
set_option maxHeartbeats 1000000 in
theorem putBytes_2 (g n cap k : Nat) (v : Int) (w : World) (h : Room w g (k + 2)) (hn : 2 ≤ n) (hv : -9223372036854775808 ≤ v ∧ v ≤ 9223372036854775807) :
    Calls Try.prog 111 #[.slice (some ⟨g, k, none⟩) n cap, .int .i64 2, .int .i64 v] w fun e w' => e = .returned (.tuple #[]) ∧ w' = putD2 w g k v := by
  obtain ⟨u0, c0⟩ := h.cell k (by omega)
  obtain ⟨u1, c1⟩ := h.cell (k + 1) (by omega)
  have hf : ∀ i, w.frozen? ⟨g, i, none⟩ = false := h.frozen
  have hl : (1 : Int) < (n : Int) := by omega
  obtain ⟨hv0, hv1⟩ := hv
  have HP := hide (show putD2 w g k v = putD2 w g k v from rfl)
  unfold putD2
  rw [bt1, bt0]
  go_enter Try.func111, Try.ntmps111
  go_wp2
  go_end0
  exact ⟨rfl, rfl⟩
set_option maxHeartbeats 1000000 in
theorem putBytes_1 (g n cap k : Nat) (v : Int) (w : World) (h : Room w g (k + 1)) (hn : 1 ≤ n) (hv : -9223372036854775808 ≤ v ∧ v ≤ 9223372036854775807) :
    Calls Try.prog 111 #[.slice (some ⟨g, k, none⟩) n cap, .int .i64 1, .int .i64 v] w fun e w' => e = .returned (.tuple #[]) ∧ w' = putD1 w g k v := by
  obtain ⟨u0, c0⟩ := h.cell k (by omega)
  have hf : ∀ i, w.frozen? ⟨g, i, none⟩ = false := h.frozen
  have hl : (0 : Int) < (n : Int) := by omega
  obtain ⟨hv0, hv1⟩ := hv
  have HP := hide (show putD1 w g k v = putD1 w g k v from rfl)
  unfold putD1
  rw [bt0]
  go_enter Try.func111, Try.ntmps111
  go_wp2
  go_end0
  exact ⟨rfl, rfl⟩
theorem put_desc4 (zs : List Int) (k : Nat) (v : Int) : put zs k v 4 = (((zs.set (k + 3) (bt v 3)).set (k + 2) (bt v 2)).set (k + 1) (bt v 1)).set k (bt v 0) := by
  simp only [put, Nat.add_zero]
  rw [List.set_comm _ _ (show k ≠ k + 1 by omega), List.set_comm _ _ (show k ≠ k + 2 by omega), List.set_comm _ _ (show k ≠ k + 3 by omega)]
  congr 1
  rw [List.set_comm _ _ (show k + 1 ≠ k + 2 by omega), List.set_comm _ _ (show k + 1 ≠ k + 3 by omega)]
  congr 1
  rw [List.set_comm _ _ (show k + 2 ≠ k + 3 by omega)]
theorem put_desc2 (zs : List Int) (k : Nat) (v : Int) : put zs k v 2 = (zs.set (k + 1) (bt v 1)).set k (bt v 0) := by
  simp only [put, Nat.add_zero]
  rw [List.set_comm _ _ (show k ≠ k + 1 by omega)]
theorem ob_set {w : World} {base g n cap : Nat} {zs : List Int} (h : OB w base (.slice (some ⟨g, 0, none⟩) n cap) zs) (i : Nat) (hi : i < n) (z : Int) (hz : 0 ≤ z ∧ z ≤ 255) : OB (w.setCell ⟨g, i, none⟩ (.int .u8 z)) base (.slice (some ⟨g, 0, none⟩) n cap) (zs.set i z) := by
  obtain ⟨⟨hl, h0 | ⟨g', cap', cur, hv, hg, hh, h1, h2, h3, h4⟩⟩, hr⟩ := h
  · simp at h0
  · simp at hv
    obtain ⟨rfl, rfl, rfl⟩ := hv
    refine ⟨⟨by simp, .inr ⟨g, cap, cur.setIfInBounds i (.int .u8 z), by simp, hg, Blk.set (w := w) hh i _, by simpa using h1, h2, by simpa using h3, ?_⟩⟩, ?_⟩
    · rw [List.length_set, Array.toList_setIfInBounds, List.take_set, h4, List.map_set]
    · intro y hy
      rcases List.mem_or_eq_of_mem_set hy with hy | rfl
      · exact hr y hy
      · exact hz
theorem ob_putD4 {w : World} {base g n cap : Nat} {zs : List Int} (h : OB w base (.slice (some ⟨g, 0, none⟩) n cap) zs) (k : Nat) (v : Int) (hk : k + 4 ≤ n) : OB (putD4 w g k v) base (.slice (some ⟨g, 0, none⟩) n cap) (put zs k v 4) := by
  rw [put_desc4]
  exact ob_set (ob_set (ob_set (ob_set h (k + 3) (by omega) _ (bt_range v 3)) (k + 2) (by omega) _ (bt_range v 2)) (k + 1) (by omega) _ (bt_range v 1)) k (by omega) _ (bt_range v 0)
theorem ob_putD2 {w : World} {base g n cap : Nat} {zs : List Int} (h : OB w base (.slice (some ⟨g, 0, none⟩) n cap) zs) (k : Nat) (v : Int) (hk : k + 2 ≤ n) : OB (putD2 w g k v) base (.slice (some ⟨g, 0, none⟩) n cap) (put zs k v 2) := by
  rw [put_desc2]
  exact ob_set (ob_set h (k + 1) (by omega) _ (bt_range v 1)) k (by omega) _ (bt_range v 0)
theorem ob_putD1 {w : World} {base g n cap : Nat} {zs : List Int} (h : OB w base (.slice (some ⟨g, 0, none⟩) n cap) zs) (k : Nat) (v : Int) (hk : k + 1 ≤ n) : OB (putD1 w g k v) base (.slice (some ⟨g, 0, none⟩) n cap) (put zs k v 1) :=
  ob_set h k (by omega) _ (bt_range v 0)
theorem ob_room {w : World} {base g n cap : Nat} {zs : List Int} (h : OB w base (.slice (some ⟨g, 0, none⟩) n cap) zs) : Room w g n := by
  obtain ⟨⟨hl, h0 | ⟨g', cap', cur, hv, hg, hh, h1, h2, h3, h4⟩⟩, hr⟩ := h
  · simp at h0
  · simp at hv
    obtain ⟨rfl, rfl, rfl⟩ := hv
    exact ⟨cur, hh, by omega⟩
def Only (g : Nat) (w w' : World) : Prop := w'.heap.size = w.heap.size ∧ (∀ k, k ≠ g → w'.heap[k]? = w.heap[k]?) ∧ w'.os = w.os ∧ w'.tape = w.tape ∧ w'.output = w.output
theorem only_refl (g : Nat) (w : World) : Only g w w := ⟨rfl, fun _ _ => rfl, rfl, rfl, rfl⟩
theorem only_set {g : Nat} {w w' : World} (h : Only g w w') (i : Nat) (u : Value) : Only g w (w'.setCell ⟨g, i, none⟩ u) :=
  ⟨by rw [size_setCell]; exact h.1, fun k hk => by rw [heap_setCell_other _ _ _ _ hk]; exact h.2.1 k hk, h.2.2.1, h.2.2.2.1, h.2.2.2.2⟩
theorem only_putD4 (g k : Nat) (v : Int) (w : World) : Only g w (putD4 w g k v) := only_set (only_set (only_set (only_set (only_refl g w) _ _) _ _) _ _) _ _
theorem only_putD2 (g k : Nat) (v : Int) (w : World) : Only g w (putD2 w g k v) := only_set (only_set (only_refl g w) _ _) _ _
theorem only_putD1 (g k : Nat) (v : Int) (w : World) : Only g w (putD1 w g k v) := only_set (only_refl g w) _ _
theorem only_below {B g : Nat} {a w w' : World} (h : Below B a w) (ho : Only g w w') (hg : B ≤ g) : Below B a w' :=
  ⟨ho.2.2.1.trans h.os, ho.2.2.2.1.trans h.tape, ho.2.2.2.2.trans h.output, by rw [ho.1]; exact h.size, fun k hk => (ho.2.1 k (by omega)).trans (h.block k hk)⟩
theorem only_blk {g k : Nat} {w w' : World} {cs : Array Value} {t : TypeId} (ho : Only g w w') (h : Blk w k cs t) (hk : k ≠ g) : Blk w' k cs t := by
  unfold Blk at *; rw [ho.2.1 k hk]; exact h
theorem own3_below {w w' : World} {base : Nat} {v1 v2 v3 : Value} {x1 x2 x3 : List Int} (h : Own3 w base v1 v2 v3 x1 x2 x3) (hb : Below w.heap.size w w') : Own3 w' base v1 v2 v3 x1 x2 x3 :=
  ⟨h.1.below hb, h.2.1.below hb, h.2.2.1.below hb, h.2.2.2⟩
theorem own3_other {w : World} {base : Nat} {v1 v2 v3 : Value} {x1 x2 x3 : List Int} (h : Own3 w base v1 v2 v3 x1 x2 x3) (a : Addr) (u : Value) (ha : a.block < base) : Own3 (w.setCell a u) base v1 v2 v3 x1 x2 x3 :=
  ⟨h.1.other a u ha, h.2.1.other a u ha, h.2.2.1.other a u ha, h.2.2.2⟩
theorem own3_mono {w : World} {base base' : Nat} {v1 v2 v3 : Value} {x1 x2 x3 : List Int} (h : Own3 w base v1 v2 v3 x1 x2 x3) (hb : base' ≤ base) : Own3 w base' v1 v2 v3 x1 x2 x3 :=
  ⟨h.1.mono hb, h.2.1.mono hb, h.2.2.1.mono hb, h.2.2.2⟩
theorem ob_far {w : World} {base g : Nat} {v : Value} {zs : List Int} (h : OB w base v zs) (a : Addr) (u : Value) (ha : v.ownBlock ≠ some a.block) : OB (w.setCell a u) base v zs := by
  refine ⟨?_, h.2⟩
  obtain ⟨hl, h0 | ⟨g', cap, cur, rfl, hg, hh, h1, h2, h3, h4⟩⟩ := h.1
  · exact ⟨hl, .inl h0⟩
  · exact ⟨hl, .inr ⟨g', cap, cur, rfl, hg, Blk.other (w := w) hh a u (by intro e; apply ha; rw [← e]; rfl), h1, h2, h3, h4⟩⟩
theorem grown_blk {w w' : World} {row : Option Nat} {k : Nat} {cs : Array Value} {t : TypeId} (hg : w.grownBy w' row) (h : Blk w k cs t) (hk : some k ≠ row) : Blk w' k cs t := by
  have := hg.block k h.lt hk
  unfold Blk at *; rw [this]; exact h
structure Hold (w W : World) (base go : Nat) (bx : Array Value) (v1 v2 v3 : Value) (x1 x2 x3 : List Int) : Prop where
  below : Below w.heap.size w W
  big : w.heap.size + 2 ≤ base
  gobig : base ≤ go
  box : Blk W w.heap.size bx 24
  res : Blk W (w.heap.size + 1) #[.slice none 0 0, .slice none 0 0, .slice none 0 0] 24
  out : Blk W go #[v1, v2, v3] 24
  own : Own3 W base v1 v2 v3 x1 x2 x3
  far : ∀ v, v = v1 ∨ v = v2 ∨ v = v3 → v.ownBlock ≠ some go
theorem Hold.step {w W W' : World} {base go : Nat} {bx : Array Value} {v1 v2 v3 : Value} {x1 x2 x3 : List Int} (h : Hold w W base go bx v1 v2 v3 x1 x2 x3) (hb : Below W.heap.size W W') : Hold w W' base go bx v1 v2 v3 x1 x2 x3 :=
  ⟨h.below.trans (hb.mono h.below.size), h.big, h.gobig, h.box.below hb, h.res.below hb, h.out.below hb, own3_below h.own hb, h.far⟩
def resW (W : World) (g : Nat) (v1 v2 v3 : Value) : World := ((W.setCell ⟨g, 0, none⟩ v1).setCell ⟨g, 1, none⟩ v2).setCell ⟨g, 2, none⟩ v3
theorem Hold.done {w W : World} {base go : Nat} {bx : Array Value} {v1 v2 v3 : Value} {x1 x2 x3 : List Int} (h : Hold w W base go bx v1 v2 v3 x1 x2 x3) :
    Own3 (resW W (w.heap.size + 1) v1 v2 v3) w.heap.size v1 v2 v3 x1 x2 x3 ∧ Below w.heap.size w (resW W (w.heap.size + 1) v1 v2 v3) := by
  have hb := h.big
  exact ⟨own3_mono (own3_other (own3_other (own3_other h.own _ _ (by dsimp only; omega)) _ _ (by dsimp only; omega)) _ _ (by dsimp only; omega)) (by omega),
    ((h.below.setCell (by dsimp only; omega) _).setCell (by dsimp only; omega) _).setCell (by dsimp only; omega) _⟩
theorem turn_ob {S : Nat → Prop} {base : Nat} {w w' : World} {v : Value} {zs : List Int} (ht : Turn S w w') (h : OB w base v zs) (hk : ∀ k, v.ownBlock = some k → ¬ S k) : OB w' base v zs := by
  refine ⟨?_, h.2⟩
  obtain ⟨hl, h0 | ⟨g', cap, cur, rfl, hg, hh, h1, h2, h3, h4⟩⟩ := h.1
  · exact ⟨hl, .inl h0⟩
  · exact ⟨hl, .inr ⟨g', cap, cur, rfl, hg, turn_blk ht hh (hk g' rfl), h1, h2, h3, h4⟩⟩
end Go.Proofs.Ytngdgogjlpjjpac
namespace Go.Proofs.Ytngdgogjlpjjpac
open Go.RowKit
set_option linter.unusedVariables false
set_option linter.unusedSimpArgs false
set_option maxRecDepth 100000
set_option maxHeartbeats 2000000 in
theorem relocsOk_any (nm : ByteArray) (v1 v2 : Value) (da : Option Addr) (dn dc : Nat) (bss : Int) (ra : Option Addr) (rn rc : Nat) (rz : List Int) (v6 v7 : Value) (w : World) (hd : dn ≤ maxLen) (h : IS w ra rn rc rz) :
    Calls Try.prog 79 #[.agg #[.string nm, v1, v2, .slice da dn dc, .int .i64 bss, .slice ra rn rc, v6, v7]] w fun e w' => e = .returned (.bool (rlo rn rz dn)) ∧ Below w.heap.size w w' := by
  obtain ⟨W, hW⟩ : ∃ W, W = w.alloc (.cells #[.string nm, v1, v2, .slice da dn dc, .int .i64 bss, .slice ra rn rc, v6, v7] 56) := ⟨_, rfl⟩
  have hB0 : Below w.heap.size w W := by rw [hW]; exact (Below.refl _ _).alloc (Nat.le_refl _) _
  have kb : Blk W w.heap.size #[.string nm, v1, v2, .slice da dn dc, .int .i64 bss, .slice ra rn rc, v6, v7] 56 := by rw [hW]; exact Blk.new _ _ _
  obtain ⟨q0, q1, q2, q3, q4, q5, q6, q7⟩ := kb.eight
  obtain ⟨r, hr⟩ : ∃ r, r = rlo rn rz dn := ⟨_, rfl⟩
  rw [← hr]
  unfold rlo at hr
  have h0 := h.below hB0
  have hm1 := h.2.1
  unfold maxLen at hm1 hd
  have HW := hide hW
  clear hW
  by_cases c1 : 16 < rn
  · have HR := hide (show r = false by rw [hr, decide_eq_false (by omega)]; rfl)
    clear hr
    have c1' : (16 : Int) < (rn : Int) := by omega
    go_enter Try.func79, Try.ntmps79
    go_wp2_with (rw [← HW.out])
    go_ret
    exact ⟨ret_bool HR.out.symm, hB0⟩
  · have c1' : ¬ (16 : Int) < (rn : Int) := by omega
    have HR := hide (show r = (List.range rn).all (rlk rz dn) by rw [hr, decide_eq_true (by omega)]; rfl)
    clear hr
    go_enter Try.func79, Try.ntmps79
    go_wp2_with (rw [← HW.out])
    go_loop [12] (fun i => ∃ k : Nat, k ≤ rn ∧ i = .int .i64 k ∧ Hid (∀ j, j < k → rlk rz dn j = true)) (fun i => rn - (intOf i).toNat)
    case atStart => exact ⟨0, Nat.zero_le _, rfl, hide (fun j hj => by omega)⟩
    case round =>
      obtain ⟨k, hk, rfl, HJ⟩ := hrel
      by_cases hlt : k < rn
      · have hlt' : (k : Int) < (rn : Int) := by omega
        obtain ⟨bb, off, rfl⟩ := h0.addr (by omega)
        have hck := h0.at k hlt
        have HZ := hide (rng_bad (rlk rz dn) rn k hlt)
        have HG := hide (show rlk rz dn k = true → ∀ j, j < k + 1 → rlk rz dn j = true from fun h j hj => by
          by_cases e : j = k
          · subst e; exact h
          · exact HJ.out j (by omega))
        have HK := hide (show ∀ b : Bool, (b = true ↔ (0 ≤ rz.getD k 0 ∧ rz.getD k 0 % 4 = 0 ∧ rz.getD k 0 ≤ (dn : Int) - 4 ∧ (k = 0 ∨ rz.getD (k - 1) 0 < rz.getD k 0))) → rlk rz dn k = b from fun b hb => by unfold rlk; rw [Bool.eq_iff_iff, hb]; simp)
        have hrg := h0.range k
        unfold wfi at hrg
        obtain ⟨g0, g1⟩ := hrg
        have ht4 := tmod4 (rz.getD k 0)
        have HU := hide (fun w => isUpTo_any (rz.getD k 0) ((dn : Int) - 4) w)
        by_cases k0 : k = 0
        · subst k0
          simp only [Nat.add_zero] at hck
          generalize rz.getD 0 0 = z at *
          by_cases d2 : z % 4 ≠ 0
          · rw [decide_eq_true d2] at ht4
            go_wp2
            go_ret
            exact ⟨ret_bool (by rw [HR.out]; exact (HZ.out (HK.out false (by simp; omega))).symm), hB0⟩
          · rw [decide_eq_false d2] at ht4
            by_cases d3 : 0 ≤ z ∧ z ≤ (dn : Int) - 4
            · rw [decide_eq_true d3] at HU
              go_wp2_with (go_at_call 78; refine (HU.out _).mono ?_; rintro e w1 ⟨rfl, rfl⟩)
              go_round
              case rel => exact ⟨1, by omega, by go_num, hide (HG.out (HK.out true (by simp; omega)))⟩
              case measure => simp [intOf]; omega
            · rw [decide_eq_false d3] at HU
              go_wp2_with (go_at_call 78; refine (HU.out _).mono ?_; rintro e w1 ⟨rfl, rfl⟩)
              go_ret
              exact ⟨ret_bool (by rw [HR.out]; exact (HZ.out (HK.out false (by simp; omega))).symm), hB0⟩
        · have hpk := h0.at (k - 1) (by omega)
          have hk0 : (0 : Int) < (k : Int) := by omega
          have hk1 : (0 : Int) ≤ (k : Int) - 1 := by omega
          have hk2 : (k : Int) - 1 < (rn : Int) := by omega
          generalize rz.getD (k - 1) 0 = y at *
          generalize rz.getD k 0 = z at *
          by_cases d2 : z % 4 ≠ 0
          · rw [decide_eq_true d2] at ht4
            go_wp2
            go_ret
            exact ⟨ret_bool (by rw [HR.out]; exact (HZ.out (HK.out false (by simp; omega))).symm), hB0⟩
          · rw [decide_eq_false d2] at ht4
            by_cases d3 : 0 ≤ z ∧ z ≤ (dn : Int) - 4
            · rw [decide_eq_true d3] at HU
              by_cases d4 : z ≤ y
              · go_wp2_with (go_at_call 78; refine (HU.out _).mono ?_; rintro e w1 ⟨rfl, rfl⟩)
                go_ret
                exact ⟨ret_bool (by rw [HR.out]; exact (HZ.out (HK.out false (by simp; omega))).symm), hB0⟩
              · go_wp2_with (go_at_call 78; refine (HU.out _).mono ?_; rintro e w1 ⟨rfl, rfl⟩)
                go_round
                case rel => exact ⟨k + 1, by omega, by go_num, hide (HG.out (HK.out true (by simp; omega)))⟩
                case measure => simp [intOf]; omega
            · rw [decide_eq_false d3] at HU
              go_wp2_with (go_at_call 78; refine (HU.out _).mono ?_; rintro e w1 ⟨rfl, rfl⟩)
              go_ret
              exact ⟨ret_bool (by rw [HR.out]; exact (HZ.out (HK.out false (by simp; omega))).symm), hB0⟩
      · have HE := hide (rng_good (rlk rz dn) rn (fun j hj => HJ.out j (by omega)))
        go_wp2
        go_ret
        exact ⟨ret_bool (by rw [HR.out]; exact HE.out.symm), hB0⟩
def encN (v : Int) (s : Nat) : List Int := (List.range s).map (bt v)
theorem encN_len (v : Int) (s : Nat) : (encN v s).length = s := by simp [encN]
theorem encN_range (v : Int) (s : Nat) : ∀ z ∈ encN v s, 0 ≤ z ∧ z ≤ 255 := by
  intro z hz
  simp only [encN, List.mem_map] at hz
  obtain ⟨j, _, rfl⟩ := hz
  exact bt_range v j
theorem put_enc (v : Int) : ∀ s, s ≤ 4 → put (List.replicate s 0) 0 v s = encN v s
  | 0, _ => rfl
  | 1, _ => rfl
  | 2, _ => rfl
  | 3, _ => rfl
  | 4, _ => rfl
  | s + 5, h => by omega
def strB (s : ByteArray) : List Int := s.data.toList.map fun b => (b.toNat : Int)
theorem strB_len (s : ByteArray) : (strB s).length = s.size := by simp [strB]
theorem strB_range (s : ByteArray) : ∀ z ∈ strB s, 0 ≤ z ∧ z ≤ 255 := by
  intro z hz
  simp only [strB, List.mem_map] at hz
  obtain ⟨b, _, rfl⟩ := hz
  have := b.toNat_lt
  omega
theorem ones8 (zs : List Int) : ∀ u ∈ zs.map (Value.int .u8), u.oneCell' = true := by
  intro u hu
  simp only [List.mem_map] at hu
  obtain ⟨z, _, rfl⟩ := hu
  rfl
theorem ob_join {w : World} {base : Nat} {v : Value} {xs ys : List Int} (hx : ∀ z ∈ xs, 0 ≤ z ∧ z ≤ 255) (hy : ∀ z ∈ ys, 0 ≤ z ∧ z ≤ 255) (h : w.ownsRow base 5 1 v (xs.length + ys.length) (xs.map (Value.int .u8) ++ ys.map (Value.int .u8))) : OB w base v (xs ++ ys) :=
  ⟨by simpa using h, fun z hz => by
    rcases List.mem_append.1 hz with h | h
    · exact hx z h
    · exact hy z h⟩
def encT (s : ByteArray) : List Int := encN s.size 1 ++ strB s
theorem encT_len (s : ByteArray) : (encT s).length = 1 + s.size := by simp [encT, encN_len, strB_len]
def encW (s : Nat) (zs : List Int) (k : Nat) : List Int := (zs.take k).flatMap fun z => encN z s
theorem encW_succ (s : Nat) (zs : List Int) (k : Nat) (h : k < zs.length) : encW s zs (k + 1) = encW s zs k ++ encN (zs.getD k 0) s := by
  unfold encW
  rw [List.take_succ_eq_append_getElem h, List.flatMap_append]
  simp [List.getD_eq_getElem?_getD, h]
theorem encW_len (s : Nat) (zs : List Int) : ∀ k, k ≤ zs.length → (encW s zs k).length = k * s
  | 0, _ => by simp [encW]
  | k + 1, h => by rw [encW_succ s zs k (by omega), List.length_append, encW_len s zs k (by omega), encN_len, Nat.succ_mul]
theorem encW_range (s : Nat) (zs : List Int) (k : Nat) : ∀ z ∈ encW s zs k, 0 ≤ z ∧ z ≤ 255 := by
  intro z hz
  simp only [encW, List.mem_flatMap] at hz
  obtain ⟨x, _, hz⟩ := hz
  exact encN_range _ _ z hz
theorem app_range {xs ys : List Int} (hx : ∀ z ∈ xs, 0 ≤ z ∧ z ≤ 255) (hy : ∀ z ∈ ys, 0 ≤ z ∧ z ≤ 255) : ∀ z ∈ xs ++ ys, 0 ≤ z ∧ z ≤ 255 := fun z hz => by
  rcases List.mem_append.1 hz with h | h
  · exact hx z h
  · exact hy z h
def encL (zs : List Int) : List Int := encN zs.length 2 ++ encW 4 zs zs.length
theorem encL_len (zs : List Int) : (encL zs).length = 2 + zs.length * 4 := by simp [encL, encN_len, encW_len]
end Go.Proofs.Ytngdgogjlpjjpac
