import Derived.Test.YtngdgogjlpjjpadGreatK00
import Derived.Deep.RegionWith
namespace Go.Proofs.YtngdgogjlpjjpadGreat
open Go.RowKit
set_option linter.unusedVariables false

theorem info8 : (Tryz.prog.info? 5).map (fun i => (i.zero, i.size, i.bytes)) = some (some (.int .u8 0), 1, 1) := by kernel_rfl

theorem made8 (n : Nat) : (madeCells (Value.cells (.int .u8 0)) (n * 1)) = ((List.replicate n (0:Int)).map (Value.int .u8)).toArray := by
  apply Array.ext
  · simp [size_madeCells]
  · intro i h1 h2
    simp [madeCells, Value.cells, Nat.mod_one]

theorem row_of_made {w : World} {base g n : Nat} (h : w.ownsRow base 5 1 (.slice (some ⟨g, 0, none⟩) n n) n (madeCells (Value.cells (.int .u8 0)) (n * 1)).toList) : Row8 w g (List.replicate n 0) := by
  obtain ⟨hl, h | ⟨g', cap, cur, hv, hb, hh, h1, h2, h3, h4⟩⟩ := h
  · simp at h
  · simp at hv
    obtain ⟨rfl, rfl⟩ := hv
    unfold Row8
    rw [hh]
    have e : cur.toList = (madeCells (Value.cells (.int .u8 0)) (n * 1)).toList := by
      rw [← h4, List.take_of_length_le (by simp [h3])]
    have e2 : cur = madeCells (Value.cells (.int .u8 0)) (n * 1) := Array.toList_inj.1 e
    rw [e2, made8]

theorem below_grown {w w' : World} (h : w.grownBy w' none) : Below w.heap.size w w' := (Below.refl _ _).grown h (Nat.le_refl _) (fun k hk => by cases hk)

def mok (n1 n2 n3 : Nat) : Bool := decide (n1 ≤ 16384 ∧ n2 ≤ 16384 ∧ n3 ≤ 5000)

set_option maxHeartbeats 400000 in
theorem sMemOk_any (a1 a2 a3 : Option Addr) (n1 c1 n2 c2 n3 c3 : Nat) (w : World) :
    Calls Tryz.prog 81 #[.agg #[.slice a1 n1 c1, .slice a2 n2 c2, .slice a3 n3 c3]] w fun e w' => e = .returned (.bool (mok n1 n2 n3)) ∧ Below w.heap.size w w' := by
  by_cases k1 : (n1 : Int) ≤ 16384
  all_goals by_cases k2 : (n2 : Int) ≤ 16384
  all_goals by_cases k3 : (n3 : Int) ≤ 5000
  all_goals
    obtain ⟨r, hr⟩ : ∃ r, r = mok n1 n2 n3 := ⟨_, rfl⟩
    have HR : Hid (r = mok n1 n2 n3) := hr
    rw [← hr]
    clear hr
    go_enter Tryz.func81, Tryz.ntmps81
    go_wp2
    go_ret
    refine ⟨ret_bool ?_, (Below.refl _ _).alloc (Nat.le_refl _) _⟩
    rw [HR.out]
    unfold mok
    simp
    try omega

set_option maxHeartbeats 400000 in
theorem iMemOk_any (a1 a2 a3 : Option Addr) (n1 c1 n2 c2 n3 c3 : Nat) (w : World) :
    Calls Tryz.prog 94 #[.agg #[.slice a1 n1 c1, .slice a2 n2 c2, .slice a3 n3 c3]] w fun e w' => e = .returned (.bool (mok n1 n2 n3)) ∧ Below w.heap.size w w' := by
  by_cases k1 : (n1 : Int) ≤ 16384
  all_goals by_cases k2 : (n2 : Int) ≤ 16384
  all_goals by_cases k3 : (n3 : Int) ≤ 5000
  all_goals
    obtain ⟨r, hr⟩ : ∃ r, r = mok n1 n2 n3 := ⟨_, rfl⟩
    have HR : Hid (r = mok n1 n2 n3) := hr
    rw [← hr]
    clear hr
    go_enter Tryz.func94, Tryz.ntmps94
    go_wp2
    go_ret
    refine ⟨ret_bool ?_, (Below.refl _ _).alloc (Nat.le_refl _) _⟩
    rw [HR.out]
    unfold mok
    simp
    try omega
theorem Blk.three {w : World} {g : Nat} {a b c : Value} {t : TypeId} (h : Blk w g #[a, b, c] t) :
    w.cell? ⟨g, 0, none⟩ = some a ∧ w.cell? ⟨g, 1, none⟩ = some b ∧ w.cell? ⟨g, 2, none⟩ = some c ∧ ∀ i, w.frozen? ⟨g, i, none⟩ = false :=
  ⟨by rw [h.cell]; rfl, by rw [h.cell]; rfl, by rw [h.cell]; rfl, fun i => h.frozen i⟩

end Go.Proofs.YtngdgogjlpjjpadGreat

namespace Go.Proofs.YtngdgogjlpjjpadGreat
open Go.RowKit
set_option linter.unusedVariables false

def wd (s : Int) : Bool := decide (s = 1 ∨ s = 2 ∨ s = 4)

set_option maxHeartbeats 400000 in
theorem l1Size_any (s : Int) (w : World) :
    Calls Tryz.prog 161 #[.int .i64 s] w fun e w' => e = .returned (.bool (wd s)) ∧ w = w' := by
  by_cases h1 : s = 1
  · subst h1
    go_enter Tryz.func161, Tryz.ntmps161
    go_wp2
    go_ret
    exact ⟨rfl, rfl⟩
  · by_cases h2 : s = 2
    · subst h2
      go_enter Tryz.func161, Tryz.ntmps161
      go_wp2
      go_ret
      exact ⟨rfl, rfl⟩
    · have hf : Hid (wd s = (s == 4)) := by show _ = _; unfold wd; rw [Bool.eq_iff_iff]; simp; omega
      have g1 : (s == 1) = false := by simpa using h1
      have g2 : (s == 2) = false := by simpa using h2
      clear h1 h2
      go_enter Tryz.func161, Tryz.ntmps161
      go_wp2
      go_ret
      exact ⟨ret_bool hf.out.symm, rfl⟩

set_option maxHeartbeats 400000 in
theorem isWidth_any (s : Int) (w : World) :
    Calls Tryz.prog 119 #[.int .i64 s] w fun e w' => e = .returned (.bool (wd s)) ∧ w = w' := by
  by_cases h1 : s = 1
  · subst h1
    go_enter Tryz.func119, Tryz.ntmps119
    go_wp2
    go_ret
    exact ⟨rfl, rfl⟩
  · by_cases h2 : s = 2
    · subst h2
      go_enter Tryz.func119, Tryz.ntmps119
      go_wp2
      go_ret
      exact ⟨rfl, rfl⟩
    · have hf : Hid (wd s = (s == 4)) := by show _ = _; unfold wd; rw [Bool.eq_iff_iff]; simp; omega
      have g1 : (s == 1) = false := by simpa using h1
      have g2 : (s == 2) = false := by simpa using h2
      clear h1 h2
      go_enter Tryz.func119, Tryz.ntmps119
      go_wp2
      go_ret
      exact ⟨ret_bool hf.out.symm, rfl⟩

def ins (p s f : Int) (n : Nat) : Bool := decide (f ≤ p ∧ p ≤ f + n - s)

set_option maxHeartbeats 400000 in
theorem l1Inside_any (p s f : Int) (n : Nat) (w : World) (hs0 : 1 ≤ s) (hs : s ≤ 4) (hf0 : 0 ≤ f) (hf : f ≤ 65536) (hn : n ≤ 16384) :
    Calls Tryz.prog 164 #[.int .i64 p, .int .i64 s, .int .i64 f, .int .i64 n] w fun e w' => e = .returned (.bool (ins p s f n)) ∧ w = w' := by
  by_cases h1 : f ≤ p
  · have hf : Hid (ins p s f n = decide (p ≤ f + n - s)) := by show _ = _; unfold ins; rw [Bool.eq_iff_iff]; simp; omega
    go_enter Tryz.func164, Tryz.ntmps164
    go_wp2
    go_ret
    exact ⟨ret_bool hf.out.symm, rfl⟩
  · have hf : Hid (ins p s f n = false) := by show _ = _; unfold ins; simp; omega
    go_enter Tryz.func164, Tryz.ntmps164
    go_wp2
    go_ret
    exact ⟨ret_bool hf.out.symm, rfl⟩

set_option maxHeartbeats 400000 in
theorem holds_any (a : Option Addr) (n cap : Nat) (p s f : Int) (w : World) (hp : p ≤ 9223372036854775807) (hs0 : 1 ≤ s) (hs : s ≤ 4) (hf0 : 0 ≤ f) (hf : f ≤ 65536) (hn : n ≤ 16384) :
    Calls Tryz.prog 159 #[.slice a n cap, .int .i64 f, .int .i64 p, .int .i64 s] w fun e w' => e = .returned (.bool (ins p s f n)) ∧ w = w' := by
  by_cases h1 : f ≤ p
  · have hf : Hid (ins p s f n = decide (p - f ≤ n - s)) := by show _ = _; unfold ins; rw [Bool.eq_iff_iff]; simp; omega
    go_enter Tryz.func159, Tryz.ntmps159
    go_wp2
    go_ret
    exact ⟨ret_bool hf.out.symm, rfl⟩
  · have hf : Hid (ins p s f n = false) := by show _ = _; unfold ins; simp; omega
    go_enter Tryz.func159, Tryz.ntmps159
    go_wp2
    go_ret
    exact ⟨ret_bool hf.out.symm, rfl⟩

/-- THE NUMBER OF BYTES, the least first. -/
def low : List Int → Int
  | [] => 0
  | z :: zs => low zs * 256 + z

theorem low_range : ∀ (zs : List Int), (∀ z ∈ zs, 0 ≤ z ∧ z ≤ 255) → 0 ≤ low zs ∧ low zs + 1 ≤ (256:Int)^zs.length
  | [], _ => by simp [low]
  | z :: zs, h => by
    have ih := low_range zs (fun x hx => h x (by simp [hx]))
    have hz := h z (by simp)
    simp only [low, List.length_cons, Int.pow_succ]
    omega
theorem low_small (zs : List Int) (h : ∀ z ∈ zs, 0 ≤ z ∧ z ≤ 255) (hl : zs.length ≤ 4) : 0 ≤ low zs ∧ low zs ≤ 4294967295 := by
  have h1 := low_range zs h
  have h2 : (256:Nat)^zs.length ≤ 256^4 := Nat.pow_le_pow_right (by omega) hl
  have h3 : ((256^zs.length : Nat) : Int) = (256:Int)^zs.length := by simp
  have h4 : (256:Nat)^4 = 4294967296 := rfl
  omega
theorem low_drop (zs : List Int) (j : Nat) (h : j < zs.length) : low (zs.drop j) = low (zs.drop (j + 1)) * 256 + zs.getD j 0 := by
  rw [List.drop_eq_getElem_cons h]
  simp [low, List.getD_eq_getElem?_getD, h]

set_option maxHeartbeats 1000000 in
theorem l1Low_any (b off n cap : Nat) (zs : List Int) (w : World) (h : BS w (some ⟨b, off, none⟩) n cap zs) (hn : n ≤ 4) :
    Calls Tryz.prog 73 #[.slice (some ⟨b, off, none⟩) n cap] w fun e w' => e = .returned (.int .i64 (low zs)) ∧ w = w' := by
  obtain ⟨hl, hmx, hr, hc, _⟩ := h
  have hd : ∀ i, i < n → w.cell? ⟨b, off + i, none⟩ = some (.int .u8 (zs.getD i 0)) := by
    intro i hi
    obtain ⟨b', off', e, hd⟩ := hc (by omega)
    simp at e
    obtain ⟨rfl, rfl⟩ := e
    exact hd i hi
  clear hc
  go_enter Tryz.func73, Tryz.ntmps73
  go_wp2
  go_loop [3, 4] (fun v i => ∃ (k : Nat) (p : Int), k ≤ n ∧ p + 1 = k ∧ i = .int .i64 p ∧ v = .int .i64 (low (zs.drop k))) (fun _ i => (intOf i + 1).toNat)
  case atStart => exact ⟨n, (n : Int) - 1, Nat.le_refl _, by omega, rfl, by rw [List.drop_of_length_le (by omega)]; rfl⟩
  case round =>
    obtain ⟨k, p, hk, hp, rfl, rfl⟩ := hrel
    by_cases h0 : k = 0
    · have hp' : p = -1 := by omega
      subst hp' h0
      clear hp
      have hfin : Hid (low (List.drop 0 zs) = low zs) := by show _ = _; rw [List.drop_zero]
      generalize low (List.drop 0 zs) = L at *
      go_wp2
      go_ret
      exact ⟨ret_int hfin.out, rfl⟩
    · obtain ⟨j, rfl⟩ : ∃ j, k = j + 1 := ⟨k - 1, by omega⟩
      have hp' : p = (j : Int) := by omega
      subst hp'
      have hj : (0:Int) ≤ (j:Int) := by omega
      have hjn : (j:Int) < (n:Int) := by omega
      have hst := low_drop zs j (by omega)
      have hL := low_small (zs.drop (j + 1)) (fun z hz => hr z (List.mem_of_mem_drop hz)) (by simp; omega)
      have hL3 : low (zs.drop (j + 1)) ≤ 4294967295 := hL.2
      have hcj := hd j (by omega)
      have hz0 : 0 ≤ zs.getD j 0 ∧ zs.getD j 0 ≤ 255 := by
        have := hr zs[j] (List.getElem_mem (by omega))
        simpa [List.getD_eq_getElem?_getD, show j < zs.length by omega] using this
      have HS := hide hst
      clear hst hp hd h0
      generalize low (zs.drop (j + 1)) = L at *
      generalize zs.getD j 0 = z at *
      obtain ⟨hL1, hL2⟩ := hL
      obtain ⟨hz1, hz2⟩ := hz0
      go_wp2
      go_round
      case rel => exact ⟨j, (j:Int) - 1, by omega, by omega, by go_num, by rw [HS.out]⟩
      case measure => simp [intOf]
end Go.Proofs.YtngdgogjlpjjpadGreat

namespace Go.Proofs.YtngdgogjlpjjpadGreat
open Go.RowKit
set_option linter.unusedVariables false

theorem wraps_i64 (n : Int) (h₀ : 0 ≤ n) (h₁ : n < 2 ^ 62) : IntKind.i64.wrap n = n := by
  have : (2:Int)^62 = 4611686018427387904 := rfl
  simp only [IntKind.wrap, IntKind.bits, IntKind.signed]
  simp
  omega
theorem or_join (i : Nat) (x y : Int) (hx₀ : 0 ≤ x) (hx : x % 2 ^ i = 0) (hx₁ : x < 2 ^ 62) (hy₀ : 0 ≤ y) (hy : y < 2 ^ i) (hy₁ : y < 2 ^ 62) : bits .or .i64 x y = x + y :=
  bits_join .i64 62 (by decide) wraps_i64 i x y hx₀ hx hx₁ hy₀ hy hy₁

theorem BS.at {w : World} {b off n cap : Nat} {zs : List Int} (h : BS w (some ⟨b, off, none⟩) n cap zs) (i : Nat) (hi : i < n) : w.cell? ⟨b, off + i, none⟩ = some (.int .u8 (zs.getD i 0)) := by
  obtain ⟨b', off', e, hd⟩ := h.2.2.2.1 (by omega)
  simp at e
  obtain ⟨rfl, rfl⟩ := e
  exact hd i hi

theorem or4 (z0 z1 z2 z3 : Int) (p0 : 0 ≤ z0) (p0' : z0 ≤ 255) (p1 : 0 ≤ z1) (p1' : z1 ≤ 255) (p2 : 0 ≤ z2) (p2' : z2 ≤ 255) (p3 : 0 ≤ z3) (p3' : z3 ≤ 255) :
    bits BinOp.or IntKind.i64 (bits BinOp.or IntKind.i64 (bits BinOp.or IntKind.i64 0 (bits BinOp.or IntKind.i64 (z3 * 16777216) (z2 * 65536))) (z1 * 256)) z0 = low [z0, z1, z2, z3] := by
  rw [or_join 24 (z3 * 16777216) (z2 * 65536) (by omega) (by omega) (by omega) (by omega) (by omega) (by omega)]
  rw [or_join 40 0 (z3 * 16777216 + z2 * 65536) (by omega) (by omega) (by omega) (by omega) (by omega) (by omega)]
  rw [or_join 16 (0 + (z3 * 16777216 + z2 * 65536)) (z1 * 256) (by omega) (by omega) (by omega) (by omega) (by omega) (by omega)]
  rw [or_join 8 (0 + (z3 * 16777216 + z2 * 65536) + z1 * 256) z0 (by omega) (by omega) (by omega) (by omega) (by omega) (by omega)]
  simp only [low]
  omega
theorem or2 (z0 z1 : Int) (p0 : 0 ≤ z0) (p0' : z0 ≤ 255) (p1 : 0 ≤ z1) (p1' : z1 ≤ 255) :
    bits BinOp.or IntKind.i64 (bits BinOp.or IntKind.i64 0 (z1 * 256)) z0 = low [z0, z1] := by
  rw [or_join 16 0 (z1 * 256) (by omega) (by omega) (by omega) (by omega) (by omega) (by omega)]
  rw [or_join 8 (0 + z1 * 256) z0 (by omega) (by omega) (by omega) (by omega) (by omega) (by omega)]
  simp only [low]
  omega
theorem or1 (z0 : Int) (p0 : 0 ≤ z0) (p0' : z0 ≤ 255) : bits BinOp.or IntKind.i64 0 z0 = low [z0] := by
  rw [or_join 8 0 z0 (by omega) (by omega) (by omega) (by omega) (by omega) (by omega)]
  simp only [low]
  omega
theorem take4 (zs : List Int) (h : 4 ≤ zs.length) : zs.take 4 = [zs.getD 0 0, zs.getD 1 0, zs.getD 2 0, zs.getD 3 0] := by
  match zs, h with
  | a :: b :: c :: d :: _, _ => rfl
theorem take2 (zs : List Int) (h : 2 ≤ zs.length) : zs.take 2 = [zs.getD 0 0, zs.getD 1 0] := by
  match zs, h with
  | a :: b :: _, _ => rfl
theorem take1 (zs : List Int) (h : 1 ≤ zs.length) : zs.take 1 = [zs.getD 0 0] := by
  match zs, h with
  | a :: _, _ => rfl

set_option maxHeartbeats 1000000 in
theorem getBytes_4 (b off n cap : Nat) (zs : List Int) (w : World) (h : BS w (some ⟨b, off, none⟩) n cap zs) (hn : 4 ≤ n) :
    Calls Tryz.prog 156 #[.slice (some ⟨b, off, none⟩) n cap, .int .i64 4] w fun e w' => e = .returned (.int .i64 (low (zs.take 4))) ∧ Below w.heap.size w w' := by
  have r0 := h.range 0
  have r1 := h.range 1
  have r2 := h.range 2
  have r3 := h.range 3
  have c0 := h.at 0 (by omega)
  have c1 := h.at 1 (by omega)
  have c2 := h.at 2 (by omega)
  have c3 := h.at 3 (by omega)
  simp only [Nat.add_zero] at c0
  have hl : (3 : Int) < (n : Int) := by omega
  rw [take4 zs (by rw [h.1]; omega)]
  clear h
  generalize zs.getD 0 0 = z0 at *
  generalize zs.getD 1 0 = z1 at *
  generalize zs.getD 2 0 = z2 at *
  generalize zs.getD 3 0 = z3 at *
  obtain ⟨p0, p0'⟩ := r0
  obtain ⟨p1, p1'⟩ := r1
  obtain ⟨p2, p2'⟩ := r2
  obtain ⟨p3, p3'⟩ := r3
  have HS := hide (or4 z0 z1 z2 z3 p0 p0' p1 p1' p2 p2' p3 p3')
  generalize low [z0, z1, z2, z3] = L at *
  go_enter Tryz.func156, Tryz.ntmps156
  go_wp2
  go_quiet (fail)
  go_wp2
  go_ret
  exact ⟨ret_int HS.out, below_drewN (Below.refl _ _) _⟩

set_option maxHeartbeats 1000000 in
theorem getBytes_2 (b off n cap : Nat) (zs : List Int) (w : World) (h : BS w (some ⟨b, off, none⟩) n cap zs) (hn : 2 ≤ n) :
    Calls Tryz.prog 156 #[.slice (some ⟨b, off, none⟩) n cap, .int .i64 2] w fun e w' => e = .returned (.int .i64 (low (zs.take 2))) ∧ Below w.heap.size w w' := by
  have r0 := h.range 0
  have r1 := h.range 1
  have c0 := h.at 0 (by omega)
  have c1 := h.at 1 (by omega)
  simp only [Nat.add_zero] at c0
  have hl : (1 : Int) < (n : Int) := by omega
  rw [take2 zs (by rw [h.1]; omega)]
  clear h
  generalize zs.getD 0 0 = z0 at *
  generalize zs.getD 1 0 = z1 at *
  obtain ⟨p0, p0'⟩ := r0
  obtain ⟨p1, p1'⟩ := r1
  have HS := hide (or2 z0 z1 p0 p0' p1 p1')
  generalize low [z0, z1] = L at *
  go_enter Tryz.func156, Tryz.ntmps156
  go_wp2
  go_ret
  exact ⟨ret_int HS.out, Below.refl _ _⟩

set_option maxHeartbeats 1000000 in
theorem getBytes_1 (b off n cap : Nat) (zs : List Int) (w : World) (h : BS w (some ⟨b, off, none⟩) n cap zs) (hn : 1 ≤ n) :
    Calls Tryz.prog 156 #[.slice (some ⟨b, off, none⟩) n cap, .int .i64 1] w fun e w' => e = .returned (.int .i64 (low (zs.take 1))) ∧ Below w.heap.size w w' := by
  have r0 := h.range 0
  have c0 := h.at 0 (by omega)
  simp only [Nat.add_zero] at c0
  have hl : (0 : Int) < (n : Int) := by omega
  rw [take1 zs (by rw [h.1]; omega)]
  clear h
  generalize zs.getD 0 0 = z0 at *
  obtain ⟨p0, p0'⟩ := r0
  have HS := hide (or1 z0 p0 p0')
  generalize low [z0] = L at *
  go_enter Tryz.func156, Tryz.ntmps156
  go_wp2
  go_ret
  exact ⟨ret_int HS.out, Below.refl _ _⟩

end Go.Proofs.YtngdgogjlpjjpadGreat
