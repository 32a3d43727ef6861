import Derived.Test.YtngdgogjlpjjpacK08
namespace Go.Proofs.Ytngdgogjlpjjpac
open Go.RowKit
set_option linter.unusedVariables false

theorem wraps_i64 (n : Int) (h₀ : 0 ≤ n) (h₁ : n < 2 ^ 62) : IntKind.i64.wrap n = n := by
  have : (2:Int)^62 = 4611686018427387904 := rfl
  simp only [IntKind.wrap, IntKind.bits, IntKind.signed]
  simp
  omega
theorem or_join (i : Nat) (x y : Int) (hx₀ : 0 ≤ x) (hx : x % 2 ^ i = 0) (hx₁ : x < 2 ^ 62) (hy₀ : 0 ≤ y) (hy : y < 2 ^ i) (hy₁ : y < 2 ^ 62) : bits .or .i64 x y = x + y :=
  bits_join .i64 62 (by decide) wraps_i64 i x y hx₀ hx hx₁ hy₀ hy hy₁

theorem BS.at {w : World} {b off n cap : Nat} {zs : List Int} (h : BS w (some ⟨b, off, none⟩) n cap zs) (i : Nat) (hi : i < n) : w.cell? ⟨b, off + i, none⟩ = some (.int .u8 (zs.getD i 0)) := by
  obtain ⟨b', off', e, hd⟩ := h.2.2.2.1 (by omega)
  simp at e
  obtain ⟨rfl, rfl⟩ := e
  exact hd i hi

theorem or4 (z0 z1 z2 z3 : Int) (p0 : 0 ≤ z0) (p0' : z0 ≤ 255) (p1 : 0 ≤ z1) (p1' : z1 ≤ 255) (p2 : 0 ≤ z2) (p2' : z2 ≤ 255) (p3 : 0 ≤ z3) (p3' : z3 ≤ 255) :
    bits BinOp.or IntKind.i64 (bits BinOp.or IntKind.i64 (bits BinOp.or IntKind.i64 0 (bits BinOp.or IntKind.i64 (z3 * 16777216) (z2 * 65536))) (z1 * 256)) z0 = low [z0, z1, z2, z3] := by
  rw [or_join 24 (z3 * 16777216) (z2 * 65536) (by omega) (by omega) (by omega) (by omega) (by omega) (by omega)]
  rw [or_join 40 0 (z3 * 16777216 + z2 * 65536) (by omega) (by omega) (by omega) (by omega) (by omega) (by omega)]
  rw [or_join 16 (0 + (z3 * 16777216 + z2 * 65536)) (z1 * 256) (by omega) (by omega) (by omega) (by omega) (by omega) (by omega)]
  rw [or_join 8 (0 + (z3 * 16777216 + z2 * 65536) + z1 * 256) z0 (by omega) (by omega) (by omega) (by omega) (by omega) (by omega)]
  simp only [low]
  omega
theorem or2 (z0 z1 : Int) (p0 : 0 ≤ z0) (p0' : z0 ≤ 255) (p1 : 0 ≤ z1) (p1' : z1 ≤ 255) :
    bits BinOp.or IntKind.i64 (bits BinOp.or IntKind.i64 0 (z1 * 256)) z0 = low [z0, z1] := by
  rw [or_join 16 0 (z1 * 256) (by omega) (by omega) (by omega) (by omega) (by omega) (by omega)]
  rw [or_join 8 (0 + z1 * 256) z0 (by omega) (by omega) (by omega) (by omega) (by omega) (by omega)]
  simp only [low]
  omega
theorem or1 (z0 : Int) (p0 : 0 ≤ z0) (p0' : z0 ≤ 255) : bits BinOp.or IntKind.i64 0 z0 = low [z0] := by
  rw [or_join 8 0 z0 (by omega) (by omega) (by omega) (by omega) (by omega) (by omega)]
  simp only [low]
  omega
theorem take4 (zs : List Int) (h : 4 ≤ zs.length) : zs.take 4 = [zs.getD 0 0, zs.getD 1 0, zs.getD 2 0, zs.getD 3 0] := by
  match zs, h with
  | a :: b :: c :: d :: _, _ => rfl
theorem take2 (zs : List Int) (h : 2 ≤ zs.length) : zs.take 2 = [zs.getD 0 0, zs.getD 1 0] := by
  match zs, h with
  | a :: b :: _, _ => rfl
theorem take1 (zs : List Int) (h : 1 ≤ zs.length) : zs.take 1 = [zs.getD 0 0] := by
  match zs, h with
  | a :: _, _ => rfl

set_option maxHeartbeats 1000000 in
theorem getBytes_4 (b off n cap : Nat) (zs : List Int) (w : World) (h : BS w (some ⟨b, off, none⟩) n cap zs) (hn : 4 ≤ n) :
    Calls Try.prog 53 #[.slice (some ⟨b, off, none⟩) n cap, .int .i64 4] w fun e w' => e = .returned (.int .i64 (low (zs.take 4))) ∧ Below w.heap.size w w' := by
  have r0 := h.range 0
  have r1 := h.range 1
  have r2 := h.range 2
  have r3 := h.range 3
  have c0 := h.at 0 (by omega)
  have c1 := h.at 1 (by omega)
  have c2 := h.at 2 (by omega)
  have c3 := h.at 3 (by omega)
  simp only [Nat.add_zero] at c0
  have hl : (3 : Int) < (n : Int) := by omega
  rw [take4 zs (by rw [h.1]; omega)]
  clear h
  generalize zs.getD 0 0 = z0 at *
  generalize zs.getD 1 0 = z1 at *
  generalize zs.getD 2 0 = z2 at *
  generalize zs.getD 3 0 = z3 at *
  obtain ⟨p0, p0'⟩ := r0
  obtain ⟨p1, p1'⟩ := r1
  obtain ⟨p2, p2'⟩ := r2
  obtain ⟨p3, p3'⟩ := r3
  have HS := hide (or4 z0 z1 z2 z3 p0 p0' p1 p1' p2 p2' p3 p3')
  generalize low [z0, z1, z2, z3] = L at *
  go_enter Try.func53, Try.ntmps53
  go_wp2
  go_quiet (fail)
  go_wp2
  go_ret
  exact ⟨ret_int HS.out, below_drewN (Below.refl _ _) _⟩

set_option maxHeartbeats 1000000 in
theorem getBytes_2 (b off n cap : Nat) (zs : List Int) (w : World) (h : BS w (some ⟨b, off, none⟩) n cap zs) (hn : 2 ≤ n) :
    Calls Try.prog 53 #[.slice (some ⟨b, off, none⟩) n cap, .int .i64 2] w fun e w' => e = .returned (.int .i64 (low (zs.take 2))) ∧ Below w.heap.size w w' := by
  have r0 := h.range 0
  have r1 := h.range 1
  have c0 := h.at 0 (by omega)
  have c1 := h.at 1 (by omega)
  simp only [Nat.add_zero] at c0
  have hl : (1 : Int) < (n : Int) := by omega
  rw [take2 zs (by rw [h.1]; omega)]
  clear h
  generalize zs.getD 0 0 = z0 at *
  generalize zs.getD 1 0 = z1 at *
  obtain ⟨p0, p0'⟩ := r0
  obtain ⟨p1, p1'⟩ := r1
  have HS := hide (or2 z0 z1 p0 p0' p1 p1')
  generalize low [z0, z1] = L at *
  go_enter Try.func53, Try.ntmps53
  go_wp2
  go_ret
  exact ⟨ret_int HS.out, Below.refl _ _⟩

set_option maxHeartbeats 1000000 in
theorem getBytes_1 (b off n cap : Nat) (zs : List Int) (w : World) (h : BS w (some ⟨b, off, none⟩) n cap zs) (hn : 1 ≤ n) :
    Calls Try.prog 53 #[.slice (some ⟨b, off, none⟩) n cap, .int .i64 1] w fun e w' => e = .returned (.int .i64 (low (zs.take 1))) ∧ Below w.heap.size w w' := by
  have r0 := h.range 0
  have c0 := h.at 0 (by omega)
  simp only [Nat.add_zero] at c0
  have hl : (0 : Int) < (n : Int) := by omega
  rw [take1 zs (by rw [h.1]; omega)]
  clear h
  generalize zs.getD 0 0 = z0 at *
  obtain ⟨p0, p0'⟩ := r0
  have HS := hide (or1 z0 p0 p0')
  generalize low [z0] = L at *
  go_enter Try.func53, Try.ntmps53
  go_wp2
  go_ret
  exact ⟨ret_int HS.out, Below.refl _ _⟩

end Go.Proofs.Ytngdgogjlpjjpac
