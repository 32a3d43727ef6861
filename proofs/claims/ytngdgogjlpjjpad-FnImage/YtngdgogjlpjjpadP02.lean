import Derived.Test.YtngdgogjlpjjpadP00
namespace Go.Proofs.Ytngdgogjlpjjpad
open Go.RowKit
set_option linter.unusedVariables false
theorem wraps_i64 (n : Int) (h₀ : 0 ≤ n) (h₁ : n < 2 ^ 62) : IntKind.i64.wrap n = n := by
  have : (2:Int)^62 = 4611686018427387904 := rfl
  simp only [IntKind.wrap, IntKind.bits, IntKind.signed]
  simp
  omega
theorem or_join (i : Nat) (x y : Int) (hx₀ : 0 ≤ x) (hx : x % 2 ^ i = 0) (hx₁ : x < 2 ^ 62) (hy₀ : 0 ≤ y) (hy : y < 2 ^ i) (hy₁ : y < 2 ^ 62) : bits .or .i64 x y = x + y :=
  bits_join .i64 62 (by decide) wraps_i64 i x y hx₀ hx hx₁ hy₀ hy hy₁
theorem BS.at {w : World} {b off n cap : Nat} {zs : List Int} (h : BS w (some ⟨b, off, none⟩) n cap zs) (i : Nat) (hi : i < n) : w.cell? ⟨b, off + i, none⟩ = some (.int .u8 (zs.getD i 0)) := by
  obtain ⟨b', off', e, hd⟩ := h.2.2.2.1 (by omega)
  simp at e
  obtain ⟨rfl, rfl⟩ := e
  exact hd i hi
theorem or4 (z0 z1 z2 z3 : Int) (p0 : 0 ≤ z0) (p0' : z0 ≤ 255) (p1 : 0 ≤ z1) (p1' : z1 ≤ 255) (p2 : 0 ≤ z2) (p2' : z2 ≤ 255) (p3 : 0 ≤ z3) (p3' : z3 ≤ 255) :
    bits BinOp.or IntKind.i64 (bits BinOp.or IntKind.i64 (bits BinOp.or IntKind.i64 0 (bits BinOp.or IntKind.i64 (z3 * 16777216) (z2 * 65536))) (z1 * 256)) z0 = low [z0, z1, z2, z3] := by
  rw [or_join 24 (z3 * 16777216) (z2 * 65536) (by omega) (by omega) (by omega) (by omega) (by omega) (by omega)]
  rw [or_join 40 0 (z3 * 16777216 + z2 * 65536) (by omega) (by omega) (by omega) (by omega) (by omega) (by omega)]
  rw [or_join 16 (0 + (z3 * 16777216 + z2 * 65536)) (z1 * 256) (by omega) (by omega) (by omega) (by omega) (by omega) (by omega)]
  rw [or_join 8 (0 + (z3 * 16777216 + z2 * 65536) + z1 * 256) z0 (by omega) (by omega) (by omega) (by omega) (by omega) (by omega)]
  simp only [low]
  omega
theorem or2 (z0 z1 : Int) (p0 : 0 ≤ z0) (p0' : z0 ≤ 255) (p1 : 0 ≤ z1) (p1' : z1 ≤ 255) :
    bits BinOp.or IntKind.i64 (bits BinOp.or IntKind.i64 0 (z1 * 256)) z0 = low [z0, z1] := by
  rw [or_join 16 0 (z1 * 256) (by omega) (by omega) (by omega) (by omega) (by omega) (by omega)]
  rw [or_join 8 (0 + z1 * 256) z0 (by omega) (by omega) (by omega) (by omega) (by omega) (by omega)]
  simp only [low]
  omega
theorem or1 (z0 : Int) (p0 : 0 ≤ z0) (p0' : z0 ≤ 255) : bits BinOp.or IntKind.i64 0 z0 = low [z0] := by
  rw [or_join 8 0 z0 (by omega) (by omega) (by omega) (by omega) (by omega) (by omega)]
  simp only [low]
  omega
theorem take4 (zs : List Int) (h : 4 ≤ zs.length) : zs.take 4 = [zs.getD 0 0, zs.getD 1 0, zs.getD 2 0, zs.getD 3 0] := by
  match zs, h with
  | a :: b :: c :: d :: _, _ => rfl
theorem take2 (zs : List Int) (h : 2 ≤ zs.length) : zs.take 2 = [zs.getD 0 0, zs.getD 1 0] := by
  match zs, h with
  | a :: b :: _, _ => rfl
theorem take1 (zs : List Int) (h : 1 ≤ zs.length) : zs.take 1 = [zs.getD 0 0] := by
  match zs, h with
  | a :: _, _ => rfl
set_option maxHeartbeats 1000000 in
theorem getBytes_4 (b off n cap : Nat) (zs : List Int) (w : World) (h : BS w (some ⟨b, off, none⟩) n cap zs) (hn : 4 ≤ n) :
    Calls Try.prog 98 #[.slice (some ⟨b, off, none⟩) n cap, .int .i64 4] w fun e w' => e = .returned (.int .i64 (low (zs.take 4))) ∧ Below w.heap.size w w' := by
  have r0 := h.range 0
  have r1 := h.range 1
  have r2 := h.range 2
  have r3 := h.range 3
  have c0 := h.at 0 (by omega)
  have c1 := h.at 1 (by omega)
  have c2 := h.at 2 (by omega)
  have c3 := h.at 3 (by omega)
  simp only [Nat.add_zero] at c0
  have hl : (3 : Int) < (n : Int) := by omega
  rw [take4 zs (by rw [h.1]; omega)]
  clear h
  generalize zs.getD 0 0 = z0 at *
  generalize zs.getD 1 0 = z1 at *
  generalize zs.getD 2 0 = z2 at *
  generalize zs.getD 3 0 = z3 at *
  obtain ⟨p0, p0'⟩ := r0
  obtain ⟨p1, p1'⟩ := r1
  obtain ⟨p2, p2'⟩ := r2
  obtain ⟨p3, p3'⟩ := r3
  have HS := hide (or4 z0 z1 z2 z3 p0 p0' p1 p1' p2 p2' p3 p3')
  generalize low [z0, z1, z2, z3] = L at *
  go_enter Try.func98, Try.ntmps98
  go_wp2
  go_quiet (fail)
  go_wp2
  go_ret
  exact ⟨ret_int HS.out, below_drewN (Below.refl _ _) _⟩
set_option maxHeartbeats 1000000 in
theorem getBytes_2 (b off n cap : Nat) (zs : List Int) (w : World) (h : BS w (some ⟨b, off, none⟩) n cap zs) (hn : 2 ≤ n) :
    Calls Try.prog 98 #[.slice (some ⟨b, off, none⟩) n cap, .int .i64 2] w fun e w' => e = .returned (.int .i64 (low (zs.take 2))) ∧ Below w.heap.size w w' := by
  have r0 := h.range 0
  have r1 := h.range 1
  have c0 := h.at 0 (by omega)
  have c1 := h.at 1 (by omega)
  simp only [Nat.add_zero] at c0
  have hl : (1 : Int) < (n : Int) := by omega
  rw [take2 zs (by rw [h.1]; omega)]
  clear h
  generalize zs.getD 0 0 = z0 at *
  generalize zs.getD 1 0 = z1 at *
  obtain ⟨p0, p0'⟩ := r0
  obtain ⟨p1, p1'⟩ := r1
  have HS := hide (or2 z0 z1 p0 p0' p1 p1')
  generalize low [z0, z1] = L at *
  go_enter Try.func98, Try.ntmps98
  go_wp2
  go_ret
  exact ⟨ret_int HS.out, Below.refl _ _⟩
set_option maxHeartbeats 1000000 in
theorem getBytes_1 (b off n cap : Nat) (zs : List Int) (w : World) (h : BS w (some ⟨b, off, none⟩) n cap zs) (hn : 1 ≤ n) :
    Calls Try.prog 98 #[.slice (some ⟨b, off, none⟩) n cap, .int .i64 1] w fun e w' => e = .returned (.int .i64 (low (zs.take 1))) ∧ Below w.heap.size w w' := by
  have r0 := h.range 0
  have c0 := h.at 0 (by omega)
  simp only [Nat.add_zero] at c0
  have hl : (0 : Int) < (n : Int) := by omega
  rw [take1 zs (by rw [h.1]; omega)]
  clear h
  generalize zs.getD 0 0 = z0 at *
  obtain ⟨p0, p0'⟩ := r0
  have HS := hide (or1 z0 p0 p0')
  generalize low [z0] = L at *
  go_enter Try.func98, Try.ntmps98
  go_wp2
  go_ret
  exact ⟨ret_int HS.out, Below.refl _ _⟩
structure Turn (S : Nat → Prop) (w w' : World) : Prop where
  os : w'.os = w.os
  tape : w'.tape = w.tape
  output : w'.output = w.output
  size : w.heap.size ≤ w'.heap.size
  block : ∀ k, k < w.heap.size → ¬ S k → w'.heap[k]? = w.heap[k]?
theorem Turn.refl (S : Nat → Prop) (w : World) : Turn S w w := ⟨rfl, rfl, rfl, Nat.le_refl _, fun _ _ _ => rfl⟩
theorem Turn.trans {S : Nat → Prop} {a b c : World} (h : Turn S a b) (k : Turn S b c) : Turn S a c :=
  ⟨k.os.trans h.os, k.tape.trans h.tape, k.output.trans h.output, Nat.le_trans h.size k.size, fun j hj hs => (k.block j (Nat.lt_of_lt_of_le hj h.size) hs).trans (h.block j hj hs)⟩
theorem Turn.mono {S S' : Nat → Prop} {w w' : World} (h : Turn S w w') (hs : ∀ k, S k → S' k) : Turn S' w w' := ⟨h.os, h.tape, h.output, h.size, fun k hk hn => h.block k hk (fun e => hn (hs k e))⟩
theorem turn_below {S : Nat → Prop} {w w' : World} (h : Below w.heap.size w w') : Turn S w w' := ⟨h.os, h.tape, h.output, h.size, fun k hk _ => h.block k hk⟩
theorem turn_alloc {S : Nat → Prop} (w : World) (o : Obj) : Turn S w (w.alloc o) := turn_below ((Below.refl _ _).alloc (Nat.le_refl _) _)
theorem below_turn {B : Nat} {S : Nat → Prop} {a w w' : World} (h : Below B a w) (ht : Turn S w w') (hS : ∀ k, S k → B ≤ k) (hB : B ≤ w.heap.size) : Below B a w' :=
  ⟨ht.os.trans h.os, ht.tape.trans h.tape, ht.output.trans h.output, Nat.le_trans h.size ht.size, fun k hk => (ht.block k (by omega) (fun e => by have := hS k e; omega)).trans (h.block k hk)⟩
theorem turn_blk {S : Nat → Prop} {w w' : World} {k : Nat} {cs : Array Value} {t : TypeId} (ht : Turn S w w') (h : Blk w k cs t) (hk : ¬ S k) : Blk w' k cs t := by
  have := ht.block k h.lt hk
  unfold Blk at *; rw [this]; exact h
theorem turn_bs {S : Nat → Prop} {w w' : World} {a : Option Addr} {n cap : Nat} {zs : List Int} (ht : Turn S w w') (h : BS w a n cap zs) (hk : ∀ k, S k → ∀ b off, a = some ⟨b, off, none⟩ → b ≠ k) : BS w' a n cap zs := by
  obtain ⟨h1, h2, h3, h4, h5⟩ := h
  refine ⟨h1, h2, h3, fun hn => ?_, h5⟩
  obtain ⟨b, off, ha, hc⟩ := h4 hn
  refine ⟨b, off, ha, fun i hi => ?_⟩
  have := hc i hi
  have hl := World.block_lt_of_cell? w _ this
  rw [World.cell?_of_block (w := w) (ht.block b hl (fun e => hk b e b off ha rfl))]
  exact this
theorem addr_add (b off i : Nat) : (Addr.add ⟨b, off, none⟩ i) = ⟨b, off + i, none⟩ := by
  simp only [Addr.add]
  split
  · next h => subst h; rfl
  · rfl
end Go.Proofs.Ytngdgogjlpjjpad
