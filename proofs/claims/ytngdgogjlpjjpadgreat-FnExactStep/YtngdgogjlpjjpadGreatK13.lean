import Derived.Test.YtngdgogjlpjjpadGreatK11
import Derived.Test.YtngdgogjlpjjpadGreatK12
import Derived.Deep.RegionHeld3
import Derived.Test.YtngdgogjlpjjpadGreatK00
namespace Go.Proofs.YtngdgogjlpjjpadGreat
open Go.RowKit
set_option linter.unusedVariables false

/-- DOES A VALID REGION HAVE AN ADDRESS? -/
def hs (b l o a : Int) : Bool := decide (b ≤ a ∧ a < b + (2:Int)^l.toNat ∧ (o / (2:Int)^((a - b) / ((2:Int)^l.toNat / 8)).toNat) % 2 = 0)

theorem rok_parts {b l o : Int} (h : rok b l o = true) : 5 ≤ l ∧ l ≤ 14 ∧ 0 ≤ o ∧ o ≤ 255 ∧ (8 ≤ l ∨ o = 0) ∧ 0 ≤ b ∧ b ≤ 262144 - (2:Int)^l.toNat := by
  simp [rok] at h
  omega
theorem pow8 (l : Int) (h : 3 ≤ l) : (2:Int)^l.toNat = 8 * (2:Int)^(l - 3).toNat := by
  obtain ⟨k, hk⟩ := Int.eq_ofNat_of_zero_le (show 0 ≤ l - 3 by omega)
  have e : l.toNat = k + 3 := by omega
  have e2 : (l - 3).toNat = k := by omega
  rw [e, e2, Int.pow_add]
  omega
theorem div_part (d q : Int) (hq : 0 < q) (h0 : 0 ≤ d) (h : d < 8 * q) : 0 ≤ d / q ∧ d / q ≤ 7 := by
  refine ⟨Int.ediv_nonneg h0 (by omega), ?_⟩
  have := Int.ediv_lt_of_lt_mul hq h
  omega

set_option maxHeartbeats 1000000 in
theorem l2Has_any (b l o a : Int) (r x y : Bool) (w : World) (h : rok b l o = true) :
    Calls Tryz.prog 219 #[.agg #[.int .i64 b, .int .i64 l, .int .i64 o, .bool r, .bool x, .bool y], .int .i64 a] w fun e w' => e = .returned (.bool (hs b l o a)) ∧ Below w.heap.size w w' := by
  obtain ⟨h1, h2, h3, h4, h5, h6, h7⟩ := rok_parts h
  have hp := pow_lt l.toNat (by omega)
  have hp0 := pow_pos l.toNat
  have hp8 := pow8 l (by omega)
  have hq0 := pow_pos (l - 3).toNat
  have hq : (2:Int)^l.toNat / 8 = (2:Int)^(l - 3).toNat := by omega
  by_cases ka : a < b
  · have hf : Hid (hs b l o a = false) := by show _ = _; unfold hs; simp; omega
    clear h h5 hp8 hq
    go_enter Tryz.func219, Tryz.ntmps219
    go_wp2_with (go_at_call 167; refine (l2Power_any _ (by omega) (by omega) _).mono ?_; rintro e w' ⟨rfl, rfl⟩)
    go_ret
    exact ⟨ret_bool hf.out.symm, (Below.refl _ _).alloc (Nat.le_refl _) _⟩
  · by_cases kb : b + (2:Int)^l.toNat ≤ a
    · have hf : Hid (hs b l o a = false) := by show _ = _; unfold hs; simp; omega
      clear h h5 hp8 hq
      go_enter Tryz.func219, Tryz.ntmps219
      go_wp2_with (go_at_call 167; refine (l2Power_any _ (by omega) (by omega) _).mono ?_; rintro e w' ⟨rfl, rfl⟩)
      go_ret
      exact ⟨ret_bool hf.out.symm, (Below.refl _ _).alloc (Nat.le_refl _) _⟩
    · by_cases k8 : l < 8
      · have hf : Hid (hs b l o a = true) := by
          have ho : o = 0 := by omega
          subst ho
          show _ = _; unfold hs; simp; omega
        clear h h5 hp8 hq
        go_enter Tryz.func219, Tryz.ntmps219
        go_wp2_with (go_at_call 167; refine (l2Power_any _ (by omega) (by omega) _).mono ?_; rintro e w' ⟨rfl, rfl⟩)
        go_ret
        exact ⟨ret_bool hf.out.symm, (Below.refl _ _).alloc (Nat.le_refl _) _⟩
      · have hd := div_part (a - b) ((2:Int)^(l - 3).toNat) hq0 (by omega) (by omega)
        have hf : Hid (hs b l o a = ((o / (2:Int)^((a - b) / ((2:Int)^l.toNat / 8)).toNat) % 2 == 0)) := by
          show _ = _; unfold hs; rw [Bool.eq_iff_iff]; simp; omega
        rw [← hq] at hd
        have hq1 : 0 < (2:Int)^l.toNat / 8 := by omega
        have hpp := pow_pos ((a - b) / ((2:Int)^l.toNat / 8)).toNat
        have hpl := pow_lt ((a - b) / ((2:Int)^l.toNat / 8)).toNat (by omega)
        clear h h5 hp8 hq hq0
        obtain ⟨hd0, hd7⟩ := hd
        go_enter Tryz.func219, Tryz.ntmps219
        go_wp2_with (go_at_call 167; refine (l2Power_any _ (by omega) (by omega) _).mono ?_; rintro e w' ⟨rfl, rfl⟩)
        go_quiet ((go_at_call 167; exact Calls.quiet_of_same (l2Power_any _ (by omega) (by omega) _)))
        go_wp2
        go_ret
        rw [Int.tmod_eq_emod_of_nonneg (Int.ediv_nonneg h3 (by omega))]
        exact ⟨ret_bool hf.out.symm, below_drewN ((Below.refl _ _).alloc (Nat.le_refl _) _) _⟩

theorem xor255 : ∀ o : Fin 256, (255 ^^^ o.val) = 255 - o.val := by decide +kernel
theorem xor_u8 (o : Int) (h0 : 0 ≤ o) (h1 : o ≤ 255) : bits BinOp.xor IntKind.u8 IntKind.u8.max o = 255 - o := by
  have hm : IntKind.u8.max = 255 := by decide
  rw [hm, u8_xor 255 o (by omega) (by omega) h0 (by omega)]
  have := xor255 ⟨o.toNat, by omega⟩
  simp only at this
  have e : (255:Int).toNat = 255 := rfl
  rw [e, this]
  omega
theorem and1_u8 (t : Int) (h0 : 0 ≤ t) (h1 : t ≤ 255) : bits BinOp.and IntKind.u8 t 1 = t % 2 := by
  rw [u8_and t 1 h0 (by omega) (by omega) (by omega)]
  have e : (1:Int).toNat = 1 := rfl
  rw [e, Nat.and_one_is_mod]
  omega

set_option maxHeartbeats 1000000 in
theorem partsOf_any (b l o : Int) (r x y : Bool) (w : World) (h0 : 0 ≤ o) (h1 : o ≤ 255) :
    Calls Tryz.prog 260 #[.agg #[.int .i64 b, .int .i64 l, .int .i64 o, .bool r, .bool x, .bool y]] w fun e w' => e = .returned (.int .u8 (255 - o)) ∧ Below w.heap.size w w' := by
  have hx := hide (xor_u8 o h0 h1)
  go_enter Tryz.func260, Tryz.ntmps260
  go_wp2
  go_ret
  exact ⟨ret_int hx.out, (Below.refl _ _).alloc (Nat.le_refl _) _⟩

set_option maxHeartbeats 1000000 in
theorem has_any (s i : Int) (w : World) (h0 : 0 ≤ s) (h1 : s ≤ 255) (h2 : 0 ≤ i) (h3 : i ≤ 7) :
    Calls Tryz.prog 261 #[.int .u8 s, .int .i64 i] w fun e w' => e = .returned (.bool ((s / (2:Int)^i.toNat) % 2 == 1)) ∧ w = w' := by
  have hq : 0 ≤ s / (2:Int)^i.toNat ∧ s / (2:Int)^i.toNat ≤ 255 := by
    have hp := pow_pos i.toNat
    exact ⟨Int.ediv_nonneg h0 (by omega), Int.le_trans (Int.ediv_le_self _ h0) h1⟩
  have hx := hide (and1_u8 (s / (2:Int)^i.toNat) hq.1 hq.2)
  clear hq
  go_enter Tryz.func261, Tryz.ntmps261
  go_wp2
  go_ret
  exact ⟨ret_bool (by rw [hx.out]), rfl⟩

theorem bit_flip : ∀ (o : Fin 256) (i : Fin 8), ((255 - o.val) / 2 ^ i.val % 2 == 1) = (o.val / 2 ^ i.val % 2 == 0) := by decide +kernel
theorem flip_int (o i : Int) (h0 : 0 ≤ o) (h1 : o ≤ 255) (h2 : 0 ≤ i) (h3 : i ≤ 7) : ((255 - o) / (2:Int)^i.toNat % 2 == 1) = (o / (2:Int)^i.toNat % 2 == 0) := by
  obtain ⟨a, rfl⟩ := Int.eq_ofNat_of_zero_le h0
  obtain ⟨k, rfl⟩ := Int.eq_ofNat_of_zero_le h2
  have := bit_flip ⟨a, by omega⟩ ⟨k, by omega⟩
  simp only at this
  have e1 : (255 - (a:Int)) = ((255 - a : Nat) : Int) := by omega
  have e2 : (2:Int)^((k:Int).toNat) = ((2^k : Nat) : Int) := by simp
  rw [e1, e2]
  rw [Bool.eq_iff_iff] at this ⊢
  simp only [beq_iff_eq] at this ⊢
  omega

theorem Blk.six {w : World} {g : Nat} {a b c d e f : Value} {t : TypeId} (h : Blk w g #[a, b, c, d, e, f] t) :
    w.cell? ⟨g, 0, none⟩ = some a ∧ w.cell? ⟨g, 1, none⟩ = some b ∧ w.cell? ⟨g, 2, none⟩ = some c ∧ w.cell? ⟨g, 3, none⟩ = some d ∧ w.cell? ⟨g, 4, none⟩ = some e ∧ w.cell? ⟨g, 5, none⟩ = some f ∧ ∀ i, w.frozen? ⟨g, i, none⟩ = false :=
  ⟨by rw [h.cell]; rfl, by rw [h.cell]; rfl, by rw [h.cell]; rfl, by rw [h.cell]; rfl, by rw [h.cell]; rfl, by rw [h.cell]; rfl, fun i => h.frozen i⟩

theorem wrap_i64 {n : Int} (h0 : -9223372036854775808 ≤ n) (h1 : n ≤ 9223372036854775807) : IntKind.i64.wrap n = n := by
  simp only [IntKind.wrap, IntKind.bits, IntKind.signed]
  simp
  omega

set_option maxHeartbeats 1000000 in
theorem regionHas_any (b l o a : Int) (r x y : Bool) (w : World) (h : rok b l o = true) (ha : -9223372036854775808 ≤ a ∧ a ≤ 9223372036854775807) :
    Calls Tryz.prog 181 #[.agg #[.int .i64 b, .int .i64 l, .int .i64 o, .bool r, .bool x, .bool y], .int .i64 a] w fun e w' => e = .returned (.bool (hs b l o a)) ∧ Below w.heap.size w w' := by
  obtain ⟨h1, h2, h3, h4, h5, h6, h7⟩ := rok_parts h
  obtain ⟨ha0, ha1⟩ := ha
  have hp := pow_lt l.toNat (by omega)
  have hp0 := pow_pos l.toNat
  have hp8 := pow8 l (by omega)
  have hq0 := pow_pos (l - 3).toNat
  have hq : (2:Int)^l.toNat / 8 = (2:Int)^(l - 3).toNat := by omega
  by_cases ka : a < b
  · have hf : Hid (hs b l o a = false) := by show _ = _; unfold hs; simp; omega
    clear h h5 hp8 hq
    have hd : decide (a < b) = true := by simpa using ka
    go_enter Tryz.func181, Tryz.ntmps181
    go_wp2
    go_quiet (fail)
    go_wp2
    go_ret
    exact ⟨ret_bool hf.out.symm, below_drewN ((Below.refl _ _).alloc (Nat.le_refl _) _) _⟩
  · have hd : decide (a < b) = false := by simpa using ka
    by_cases kb : (2:Int)^l.toNat ≤ a - b
    · have hf : Hid (hs b l o a = false) := by show _ = _; unfold hs; simp; omega
      clear h h5 hp8 hq
      go_enter Tryz.func181, Tryz.ntmps181
      go_wp2
      go_quiet (fail)
      go_wp2
      go_ret
      exact ⟨ret_bool hf.out.symm, below_drewN ((Below.refl _ _).alloc (Nat.le_refl _) _) _⟩
    · have hdv := div_part (a - b) ((2:Int)^(l - 3).toNat) hq0 (by omega) (by omega)
      have hf : Hid (hs b l o a = (((255 - o) / (2:Int)^((a - b) / ((2:Int)^(l-3).toNat)).toNat) % 2 == 1)) := by
        show _ = _
        rw [flip_int o _ h3 h4 hdv.1 hdv.2, ← hq]
        unfold hs; rw [Bool.eq_iff_iff]; simp; omega
      clear h h5 hp8 hq
      obtain ⟨hd0, hd7⟩ := hdv
      go_enter Tryz.func181, Tryz.ntmps181
      go_wp2
      go_quiet (fail)
      go_wp2_with fail
      have kb := Blk.new w #[.int .i64 b, .int .i64 l, .int .i64 o, .bool r, .bool x, .bool y] 135
      have hB0 : Below w.heap.size w (w.alloc (.cells #[.int .i64 b, .int .i64 l, .int .i64 o, .bool r, .bool x, .bool y] 135)) := (Below.refl _ _).alloc (Nat.le_refl _) _
      have hw1 : IntKind.i64.wrap (a - b) = a - b := wrap_i64 (by omega) (by omega)
      have hw2 : IntKind.i64.wrap (l - 3) = l - 3 := wrap_i64 (by omega) (by omega)
      have hsh : Op.shift .shr .i64 (a - b) .i64 (l - 3) = pure (.int .i64 ((a - b) / (2:Int)^(l-3).toNat)) := by
        rw [shift_shr_any _ _ _ _ (by omega), Nat.min_eq_left (by simp [IntKind.bits]; omega)]
      go_region_held3 (fun w' => w'.cell? ⟨w.heap.size, 0, none⟩ = some (.int .i64 b) ∧ w'.cell? ⟨w.heap.size, 1, none⟩ = some (.int .i64 l) ∧ w'.cell? ⟨w.heap.size, 2, none⟩ = some (.int .i64 o) ∧ w'.cell? ⟨w.heap.size, 3, none⟩ = some (.bool r) ∧ w'.cell? ⟨w.heap.size, 4, none⟩ = some (.bool x) ∧ w'.cell? ⟨w.heap.size, 5, none⟩ = some (.bool y)) (go_keep)
        (first
          | (go_at_call 260; refine (partsOf_any b l o r x y _ h3 h4).mono ?_; rintro e w1 ⟨rfl, hb1⟩; obtain ⟨q1, q2, q3, q4, q5, q6, q7⟩ := (Blk.below (by exact kb) hb1).six)
          | (go_at_call 261; refine (has_any _ _ _ ?_ ?_ ?_ ?_).mono ?_; omega; omega; omega; omega; rintro e w2 ⟨rfl, rfl⟩))
      go_wp2
      go_ret
      exact ⟨ret_bool hf.out.symm, (below_drewN hB0 _).trans (hb1.mono (by simp))⟩

/-- WHAT A REGION LETS: 1: Read, 2: Write, 3: Exec. -/
def lets (r x y : Bool) (k : Int) : Bool := if k = 1 then r else if k = 2 then x else if k = 3 then y else false

set_option maxHeartbeats 1000000 in
theorem l2Lets_any (b l o k : Int) (r x y : Bool) (w : World) (hk : k = 1 ∨ k = 2 ∨ k = 3) :
    Calls Tryz.prog 220 #[.agg #[.int .i64 b, .int .i64 l, .int .i64 o, .bool r, .bool x, .bool y], .int .i64 k] w fun e w' => e = .returned (.bool (lets r x y k)) ∧ Below w.heap.size w w' := by
  rcases hk with rfl | rfl | rfl
  all_goals
    go_enter Tryz.func220, Tryz.ntmps220
    go_wp2
    go_ret
    exact ⟨rfl, (Below.refl _ _).alloc (Nat.le_refl _) _⟩

set_option maxHeartbeats 1000000 in
theorem regionAllows_any (b l o k : Int) (r x y : Bool) (w : World) :
    Calls Tryz.prog 182 #[.agg #[.int .i64 b, .int .i64 l, .int .i64 o, .bool r, .bool x, .bool y], .int .i64 k] w fun e w' => e = .returned (.bool (lets r x y k)) ∧ Below w.heap.size w w' := by
  by_cases h1 : k = 1
  · subst h1
    go_enter Tryz.func182, Tryz.ntmps182
    go_wp2
    go_ret
    exact ⟨rfl, (Below.refl _ _).alloc (Nat.le_refl _) _⟩
  · by_cases h2 : k = 2
    · subst h2
      go_enter Tryz.func182, Tryz.ntmps182
      go_wp2
      go_ret
      exact ⟨rfl, (Below.refl _ _).alloc (Nat.le_refl _) _⟩
    · by_cases h3 : k = 3
      · subst h3
        go_enter Tryz.func182, Tryz.ntmps182
        go_wp2
        go_ret
        exact ⟨rfl, (Below.refl _ _).alloc (Nat.le_refl _) _⟩
      · have hf : Hid (lets r x y k = false) := by show _ = _; simp [lets, h1, h2, h3]
        have g1 : (k == 1) = false := by simpa using h1
        have g2 : (k == 2) = false := by simpa using h2
        have g3 : (k == 3) = false := by simpa using h3
        clear h1 h2 h3
        go_enter Tryz.func182, Tryz.ntmps182
        go_wp2
        go_ret
        exact ⟨ret_bool hf.out.symm, (Below.refl _ _).alloc (Nat.le_refl _) _⟩
end Go.Proofs.YtngdgogjlpjjpadGreat

namespace Go.Proofs.YtngdgogjlpjjpadGreat
open Go.RowKit
set_option linter.unusedVariables false

abbrev Rg := Int × Int × Int × Bool × Bool × Bool
def z6 : Rg := (0, 0, 0, false, false, false)

/-- THE SIX CELLS OF A REGION. -/
def At6 (w : World) (b o : Nat) (g : Rg) : Prop :=
  w.cell? ⟨b, o, none⟩ = some (.int .i64 g.1) ∧ w.cell? ⟨b, o + 1, none⟩ = some (.int .i64 g.2.1) ∧ w.cell? ⟨b, o + 2, none⟩ = some (.int .i64 g.2.2.1) ∧
  w.cell? ⟨b, o + 3, none⟩ = some (.bool g.2.2.2.1) ∧ w.cell? ⟨b, o + 4, none⟩ = some (.bool g.2.2.2.2.1) ∧ w.cell? ⟨b, o + 5, none⟩ = some (.bool g.2.2.2.2.2)

def wfi (z : Int) : Prop := -9223372036854775808 ≤ z ∧ z ≤ 9223372036854775807

/-- A SLICE OF REGIONS THAT READS AS rs. -/
def RS (w : World) (a : Option Addr) (n cap : Nat) (rs : List Rg) : Prop :=
  rs.length = n ∧ n ≤ maxLen ∧ (∀ g ∈ rs, wfi g.1 ∧ wfi g.2.1 ∧ wfi g.2.2.1) ∧ (n ≠ 0 → ∃ b off, a = some ⟨b, off, none⟩ ∧ ∀ i, i < n → At6 w b (off + i * 6) (rs.getD i z6)) ∧ n ≤ cap

theorem At6.below {w w' : World} {b o : Nat} {g : Rg} (h : At6 w b o g) (hb : Below w.heap.size w w') : At6 w' b o g := by
  obtain ⟨h1, h2, h3, h4, h5, h6⟩ := h
  have hl : b < w.heap.size := World.block_lt_of_cell? w _ h1
  unfold At6
  rw [hb.cell (p := ⟨b, o, none⟩) hl, hb.cell (p := ⟨b, o + 1, none⟩) hl, hb.cell (p := ⟨b, o + 2, none⟩) hl, hb.cell (p := ⟨b, o + 3, none⟩) hl, hb.cell (p := ⟨b, o + 4, none⟩) hl, hb.cell (p := ⟨b, o + 5, none⟩) hl]
  exact ⟨h1, h2, h3, h4, h5, h6⟩
theorem RS.below {w w' : World} {a : Option Addr} {n cap : Nat} {rs : List Rg} (h : RS w a n cap rs) (hb : Below w.heap.size w w') : RS w' a n cap rs := by
  obtain ⟨h1, h2, h3, h4, h5⟩ := h
  refine ⟨h1, h2, h3, fun hn => ?_, h5⟩
  obtain ⟨b, off, ha, hc⟩ := h4 hn
  exact ⟨b, off, ha, fun i hi => (hc i hi).below hb⟩
theorem RS.some {w : World} {a : Option Addr} {n cap : Nat} {rs : List Rg} (h : RS w a n cap rs) (hn : n ≠ 0) : ∃ b off, a = Option.some ⟨b, off, none⟩ := by
  obtain ⟨b, off, e, _⟩ := h.2.2.2.1 hn
  exact ⟨b, off, e⟩
theorem RS.at {w : World} {b off n cap : Nat} {rs : List Rg} (h : RS w (Option.some ⟨b, off, none⟩) n cap rs) (i : Nat) (hi : i < n) : At6 w b (off + i * 6) (rs.getD i z6) := by
  obtain ⟨b', off', e, hd⟩ := h.2.2.2.1 (by omega)
  simp at e
  obtain ⟨rfl, rfl⟩ := e
  exact hd i hi

theorem infoR : (Tryz.prog.info? 135).map (fun i => (i.zero, i.size, i.bytes)) = some (some (.agg #[.int .i64 0, .int .i64 0, .int .i64 0, .bool false, .bool false, .bool false]), 6, 32) := by kernel_rfl
end Go.Proofs.YtngdgogjlpjjpadGreat

namespace Go.Proofs.YtngdgogjlpjjpadGreat
open Go.RowKit
set_option linter.unusedVariables false

def gok (g : Rg) : Bool := rok g.1 g.2.1 g.2.2.1
def ghas (g : Rg) (a : Int) : Bool := hs g.1 g.2.1 g.2.2.1 a
def glets (g : Rg) (k : Int) : Bool := lets g.2.2.2.1 g.2.2.2.2.1 g.2.2.2.2.2 k
/-- THE LAST REGION THAT HAS THE ADDRESS, of the first k. -/
def oneTo (rs : List Rg) (a k : Int) : Nat → Bool
  | 0 => false
  | j + 1 => if ghas (rs.getD j z6) a then glets (rs.getD j z6) k else oneTo rs a k j

set_option maxHeartbeats 1000000 in
theorem l2One_some (b off n cap : Nat) (rs : List Rg) (a k : Int) (w : World) (h : RS w (some ⟨b, off, none⟩) n cap rs) (hok : ∀ g ∈ rs, gok g = true) (hk : k = 1 ∨ k = 2 ∨ k = 3) (hn : n ≤ 8) :
    Calls Tryz.prog 163 #[.slice (some ⟨b, off, none⟩) n cap, .int .i64 a, .int .i64 k] w fun e w' => e = .returned (.bool (oneTo rs a k n)) ∧ Below w.heap.size w w' := by
  have hl := h.1
  go_enter Tryz.func163, Tryz.ntmps163
  go_wp2
  go_loopw [7] (fun i wr => ∃ (j : Nat) (p : Int), j ≤ n ∧ p + 1 = j ∧ i = .int .i64 p ∧ oneTo rs a k j = oneTo rs a k n ∧ Below w.heap.size w wr) (fun i _ => (intOf i + 1).toNat)
  case atStart => exact ⟨n, (n : Int) - 1, Nat.le_refl _, by omega, rfl, rfl, Below.refl _ _⟩
  case round =>
    obtain ⟨j, p, hj, hp, rfl, hone, hB⟩ := hrel
    by_cases h0 : j = 0
    · have hp' : p = -1 := by omega
      subst hp' h0
      have HO := hide hone
      clear hp hone
      have HK := hide hk
      clear hk
      go_wp2
      go_ret
      exact ⟨ret_bool (by rw [← HO.out]; rfl), hB⟩
    · obtain ⟨i, rfl⟩ : ∃ i, j = i + 1 := ⟨j - 1, by omega⟩
      have hp' : p = (i : Int) := by omega
      subst hp'
      have hi0 : (0:Int) ≤ (i:Int) := by omega
      have hin : (i:Int) < (n:Int) := by omega
      have hat := (h.below hB).at i (by omega)
      have hg := hok (rs.getD i z6) (by simp [List.getD_eq_getElem?_getD, show i < rs.length by omega])
      have hstep : oneTo rs a k (i + 1) = if ghas (rs.getD i z6) a then glets (rs.getD i z6) k else oneTo rs a k i := rfl
      rw [hone] at hstep
      have HK := hide hk
      clear hp hone hk h0
      generalize rs.getD i z6 = g at *
      obtain ⟨g1, g2, g3, g4, g5, g6⟩ := g
      have HS := hide hstep
      clear hstep
      have hga : rok g1 g2 g3 = true := hg
      clear hg
      have q1 := hat.1
      have q2 := hat.2.1
      have q3 := hat.2.2.1
      have q4 := hat.2.2.2.1
      have q5 := hat.2.2.2.2.1
      have q6 := hat.2.2.2.2.2
      simp only at q1 q2 q3 q4 q5 q6
      go_wp2_with fail
      refine (l2Has_any g1 g2 g3 a g4 g5 g6 _ hga).mono ?_
      rintro e w1 ⟨rfl, hb1⟩
      have hB1 := hB.trans (hb1.mono hB.size)
      cases hh : hs g1 g2 g3 a
      · have HH := hide hh
        clear hh
        go_wp2
        go_roundw
        case rel => exact ⟨i, (i:Int) - 1, by omega, by omega, by go_num, by rw [HS.out]; rw [show ghas (g1, g2, g3, g4, g5, g6) a = false from HH.out]; rfl, hB1⟩
        case measure => simp [intOf]
      · have HH := hide hh
        clear hh
        have hat1 := hat.below hb1
        have q1 := hat1.1
        have q2 := hat1.2.1
        have q3 := hat1.2.2.1
        have q4 := hat1.2.2.2.1
        have q5 := hat1.2.2.2.2.1
        have q6 := hat1.2.2.2.2.2
        simp only at q1 q2 q3 q4 q5 q6
        go_wp2_with fail
        refine (l2Lets_any g1 g2 g3 k g4 g5 g6 _ HK.out).mono ?_
        rintro e w2 ⟨rfl, hb2⟩
        go_wp2
        go_ret
        exact ⟨ret_bool (by rw [HS.out]; rw [show ghas (g1, g2, g3, g4, g5, g6) a = true from HH.out]; rfl), hB1.trans (hb2.mono hB1.size)⟩

set_option maxHeartbeats 1000000 in
theorem l2One_nil (x : Option Addr) (cap : Nat) (a k : Int) (w : World) :
    Calls Tryz.prog 163 #[.slice x 0 cap, .int .i64 a, .int .i64 k] w fun e w' => e = .returned (.bool false) ∧ Below w.heap.size w w' := by
  go_enter Tryz.func163, Tryz.ntmps163
  go_wp2
  go_loop [7] (fun i => i = .int .i64 (-1)) (fun _ => 0)
  case atStart => rfl
  case round =>
    obtain rfl := hrel
    go_wp2
    go_ret
    exact ⟨rfl, Below.refl _ _⟩

theorem l2One_any (x : Option Addr) (n cap : Nat) (rs : List Rg) (a k : Int) (w : World) (h : RS w x n cap rs) (hok : ∀ g ∈ rs, gok g = true) (hk : k = 1 ∨ k = 2 ∨ k = 3) (hn : n ≤ 8) :
    Calls Tryz.prog 163 #[.slice x n cap, .int .i64 a, .int .i64 k] w fun e w' => e = .returned (.bool (oneTo rs a k n)) ∧ Below w.heap.size w w' := by
  by_cases h0 : n = 0
  · subst h0
    exact l2One_nil x cap a k w
  · obtain ⟨b, off, rfl⟩ := h.some h0
    exact l2One_some b off n cap rs a k w h hok hk hn

set_option maxHeartbeats 1000000 in
theorem addr_some (b off n cap : Nat) (rs : List Rg) (a k : Int) (w : World) (h : RS w (some ⟨b, off, none⟩) n cap rs) (hok : ∀ g ∈ rs, gok g = true) (hk : wfi a) (hn : n ≤ 8) :
    Calls Tryz.prog 121 #[.slice (some ⟨b, off, none⟩) n cap, .int .i64 a, .int .i64 k] w fun e w' => e = .returned (.bool (oneTo rs a k n)) ∧ Below w.heap.size w w' := by
  have hl := h.1
  go_enter Tryz.func121, Tryz.ntmps121
  go_wp2
  go_loopw [7] (fun i wr => ∃ (j : Nat) (p : Int), j ≤ n ∧ p + 1 = j ∧ i = .int .i64 p ∧ oneTo rs a k j = oneTo rs a k n ∧ Below w.heap.size w wr) (fun i _ => (intOf i + 1).toNat)
  case atStart => exact ⟨n, (n : Int) - 1, Nat.le_refl _, by omega, rfl, rfl, Below.refl _ _⟩
  case round =>
    obtain ⟨j, p, hj, hp, rfl, hone, hB⟩ := hrel
    by_cases h0 : j = 0
    · have hp' : p = -1 := by omega
      subst hp' h0
      have HO := hide hone
      clear hp hone
      have HK := hide hk
      clear hk
      go_wp2
      go_ret
      exact ⟨ret_bool (by rw [← HO.out]; rfl), hB⟩
    · obtain ⟨i, rfl⟩ : ∃ i, j = i + 1 := ⟨j - 1, by omega⟩
      have hp' : p = (i : Int) := by omega
      subst hp'
      have hi0 : (0:Int) ≤ (i:Int) := by omega
      have hin : (i:Int) < (n:Int) := by omega
      have hat := (h.below hB).at i (by omega)
      have hg := hok (rs.getD i z6) (by simp [List.getD_eq_getElem?_getD, show i < rs.length by omega])
      have hstep : oneTo rs a k (i + 1) = if ghas (rs.getD i z6) a then glets (rs.getD i z6) k else oneTo rs a k i := rfl
      rw [hone] at hstep
      have HK := hide hk
      clear hp hone hk h0
      generalize rs.getD i z6 = g at *
      obtain ⟨g1, g2, g3, g4, g5, g6⟩ := g
      have HS := hide hstep
      clear hstep
      have hga : rok g1 g2 g3 = true := hg
      clear hg
      have q1 := hat.1
      have q2 := hat.2.1
      have q3 := hat.2.2.1
      have q4 := hat.2.2.2.1
      have q5 := hat.2.2.2.2.1
      have q6 := hat.2.2.2.2.2
      simp only at q1 q2 q3 q4 q5 q6
      go_wp2_with fail
      refine (regionHas_any g1 g2 g3 a g4 g5 g6 _ hga HK.out).mono ?_
      rintro e w1 ⟨rfl, hb1⟩
      have hB1 := hB.trans (hb1.mono hB.size)
      cases hh : hs g1 g2 g3 a
      · have HH := hide hh
        clear hh
        go_wp2
        go_roundw
        case rel => exact ⟨i, (i:Int) - 1, by omega, by omega, by go_num, by rw [HS.out]; rw [show ghas (g1, g2, g3, g4, g5, g6) a = false from HH.out]; rfl, hB1⟩
        case measure => simp [intOf]
      · have HH := hide hh
        clear hh
        have hat1 := hat.below hb1
        have q1 := hat1.1
        have q2 := hat1.2.1
        have q3 := hat1.2.2.1
        have q4 := hat1.2.2.2.1
        have q5 := hat1.2.2.2.2.1
        have q6 := hat1.2.2.2.2.2
        simp only at q1 q2 q3 q4 q5 q6
        go_wp2_with fail
        refine (regionAllows_any g1 g2 g3 k g4 g5 g6 _).mono ?_
        rintro e w2 ⟨rfl, hb2⟩
        go_wp2
        go_ret
        exact ⟨ret_bool (by rw [HS.out]; rw [show ghas (g1, g2, g3, g4, g5, g6) a = true from HH.out]; rfl), hB1.trans (hb2.mono hB1.size)⟩

set_option maxHeartbeats 1000000 in
theorem addr_nil (x : Option Addr) (cap : Nat) (a k : Int) (w : World) :
    Calls Tryz.prog 121 #[.slice x 0 cap, .int .i64 a, .int .i64 k] w fun e w' => e = .returned (.bool false) ∧ Below w.heap.size w w' := by
  go_enter Tryz.func121, Tryz.ntmps121
  go_wp2
  go_loop [7] (fun i => i = .int .i64 (-1)) (fun _ => 0)
  case atStart => rfl
  case round =>
    obtain rfl := hrel
    go_wp2
    go_ret
    exact ⟨rfl, Below.refl _ _⟩

theorem addr_any (x : Option Addr) (n cap : Nat) (rs : List Rg) (a k : Int) (w : World) (h : RS w x n cap rs) (hok : ∀ g ∈ rs, gok g = true) (hk : wfi a) (hn : n ≤ 8) :
    Calls Tryz.prog 121 #[.slice x n cap, .int .i64 a, .int .i64 k] w fun e w' => e = .returned (.bool (oneTo rs a k n)) ∧ Below w.heap.size w w' := by
  by_cases h0 : n = 0
  · subst h0
    exact addr_nil x cap a k w
  · obtain ⟨b, off, rfl⟩ := h.some h0
    exact addr_some b off n cap rs a k w h hok hk hn

end Go.Proofs.YtngdgogjlpjjpadGreat
