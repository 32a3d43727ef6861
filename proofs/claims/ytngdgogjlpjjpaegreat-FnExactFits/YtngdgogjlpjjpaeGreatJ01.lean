import Derived.Test.YtngdgogjlpjjpaeGreatJ00
import Derived.Deep.RegionHeld3
import Derived.Laws.EntriesVeiled
namespace Go.Proofs.YtngdgogjlpjjpaeGreat
open Go.RowKit
set_option linter.unusedVariables false

/-- THE NUMBER OF ONES. -/
def popc (x : Nat) : Nat := x % 2 + x / 2 % 2 + x / 4 % 2 + x / 8 % 2 + x / 16 % 2 + x / 32 % 2 + x / 64 % 2 + x / 128 % 2

set_option maxRecDepth 100000 in
set_option maxHeartbeats 1000000 in
theorem onesCount8_any (x : Nat) (w : World) (h1 : x < 256) :
    Calls Tryz.prog 288 #[.int .u8 x] w fun e w' => e = .returned (.int .i64 (popc x)) ∧ w = w' := by
  go_enter Tryz.func288, Tryz.ntmps288
  go_wp2
  go_ret
  refine ⟨ret_int ?_, rfl⟩
  clear w
  revert x
  decide +kernel

theorem cv_xor255 : ∀ o : Fin 256, (255 ^^^ (255 - o.val)) = o.val := by decide +kernel
theorem cv_xor (q : Nat) (h : q < 256) : bits BinOp.xor IntKind.u8 IntKind.u8.max (255 - (q : Int)) = (q : Int) := by
  have hm : IntKind.u8.max = 255 := by decide
  rw [hm, u8_xor 255 (255 - (q : Int)) (by omega) (by omega) (by omega) (by omega)]
  have := cv_xor255 ⟨q, h⟩
  simp only at this
  have e : (255:Int).toNat = 255 := rfl
  have e2 : (255 - (q : Int)).toNat = 255 - q := by omega
  rw [e, e2, this]
theorem popc_le : ∀ q, q < 256 → popc q ≤ 8 := by decide +kernel

set_option maxHeartbeats 1000000 in
theorem cvParts_any (b l : Int) (q : Nat) (r x y : Bool) (w : World) (h : q < 256) :
    Calls Tryz.prog 289 #[.agg #[.int .i64 b, .int .i64 l, .int .i64 (255 - (q : Int)), .bool r, .bool x, .bool y]] w fun e w' => e = .returned (.int .u8 q) ∧ Below w.heap.size w w' := by
  have hx := hide (cv_xor q h)
  have h0 : 0 ≤ 255 - (q : Int) := by omega
  have h1 : 255 - (q : Int) ≤ 255 := by omega
  generalize 255 - (q : Int) = o at *
  go_enter Tryz.func289, Tryz.ntmps289
  go_wp2
  go_ret
  exact ⟨ret_int hx.out, (Below.refl _ _).alloc (Nat.le_refl _) _⟩

theorem Blk.six' {w : World} {g : Nat} {a b c d e f : Value} {t : TypeId} (h : Blk w g #[a, b, c, d, e, f] t) :
    w.cell? ⟨g, 0, none⟩ = some a ∧ w.cell? ⟨g, 1, none⟩ = some b ∧ w.cell? ⟨g, 2, none⟩ = some c ∧ w.cell? ⟨g, 3, none⟩ = some d ∧ w.cell? ⟨g, 4, none⟩ = some e ∧ w.cell? ⟨g, 5, none⟩ = some f ∧ ∀ i, w.frozen? ⟨g, i, none⟩ = false :=
  ⟨by rw [h.cell]; rfl, by rw [h.cell]; rfl, by rw [h.cell]; rfl, by rw [h.cell]; rfl, by rw [h.cell]; rfl, by rw [h.cell]; rfl, fun i => h.frozen i⟩
theorem cv_wrap {n : Int} (h0 : -9223372036854775808 ≤ n) (h1 : n ≤ 9223372036854775807) : IntKind.i64.wrap n = n := by
  simp only [IntKind.wrap, IntKind.bits, IntKind.signed]
  simp
  omega

/-- THE NUMBER OF ADDRESSES of a region with the parts q. -/
def cnt (l : Int) (q : Nat) : Int := (popc q : Int) * (2:Int)^(l - 3).toNat

set_option maxHeartbeats 1000000 in
theorem addressCount_any (b l : Int) (q : Nat) (r x y : Bool) (w : World) (h : q < 256) (hl : 5 ≤ l) (hl' : l ≤ 14) :
    Calls Tryz.prog 283 #[.agg #[.int .i64 b, .int .i64 l, .int .i64 (255 - (q : Int)), .bool r, .bool x, .bool y]] w fun e w' => e = .returned (.int .i64 (cnt l q)) ∧ Below w.heap.size w w' := by
  have hp := popc_le q h
  have hpw := pow_lt (l - 3).toNat (by omega)
  have hpw0 := pow_pos (l - 3).toNat
  have hmul : (popc q : Int) * (2:Int)^(l - 3).toNat ≤ 8 * 1048576 := by
    have h1 : (popc q : Int) * (2:Int)^(l - 3).toNat ≤ 8 * (2:Int)^(l - 3).toNat := Int.mul_le_mul_of_nonneg_right (by omega) (by omega)
    omega
  have hmul0 : 0 ≤ (popc q : Int) * (2:Int)^(l - 3).toNat := Int.mul_nonneg (by omega) (by omega)
  have hw2 : IntKind.i64.wrap (l - 3) = l - 3 := cv_wrap (by omega) (by omega)
  have HC := hide (show cnt l q = (popc q : Int) * (2:Int)^(l - 3).toNat from rfl)
  have kb := Blk.new w #[.int .i64 b, .int .i64 l, .int .i64 (255 - (q : Int)), .bool r, .bool x, .bool y] 158
  have hB0 : Below w.heap.size w (w.alloc (.cells #[.int .i64 b, .int .i64 l, .int .i64 (255 - (q : Int)), .bool r, .bool x, .bool y] 158)) := (Below.refl _ _).alloc (Nat.le_refl _) _
  have HM := hide (And.intro hmul0 hmul)
  clear hmul hmul0
  have HP := hide (onesCount8_any q)
  go_enter Tryz.func283, Tryz.ntmps283
  go_wp2
  go_region_held3 (fun w' => w'.cell? ⟨w.heap.size, 0, none⟩ = some (.int .i64 b) ∧ w'.cell? ⟨w.heap.size, 1, none⟩ = some (.int .i64 l) ∧ w'.cell? ⟨w.heap.size, 2, none⟩ = some (.int .i64 (255 - (q : Int))) ∧ w'.cell? ⟨w.heap.size, 3, none⟩ = some (.bool r) ∧ w'.cell? ⟨w.heap.size, 4, none⟩ = some (.bool x) ∧ w'.cell? ⟨w.heap.size, 5, none⟩ = some (.bool y)) (go_keep)
    (first
      | (go_at_call 289; refine (cvParts_any b l q r x y _ h).mono ?_; rintro e w1 ⟨rfl, hb1⟩; obtain ⟨q1, q2, q3, q4, q5, q6, q7⟩ := (Blk.below (by exact kb) hb1).six')
      | (go_at_call 288; refine (HP.out _ h).mono ?_; rintro e w2 ⟨rfl, rfl⟩))
  go_wp2
  go_ret
  refine ⟨ret_int ?_, hB0.drew.trans (hb1.mono (by simp))⟩
  rw [HC.out]
  exact cv_wrap (by have := HM.out; omega) (by have := HM.out; omega)

theorem cv_or : ∀ (q i : Nat), q < 256 → i < 8 → (q ||| 2 ^ i) < 256 := by
  intro q i hq hi
  exact Nat.or_lt_two_pow (n := 8) hq (Nat.pow_lt_pow_right (by omega) hi)
set_option maxHeartbeats 1000000 in
theorem with_any (q i : Nat) (w : World) (h : q < 256) (hi : i < 8) :
    Calls Tryz.prog 292 #[.int .u8 q, .int .i64 i] w fun e w' => e = .returned (.int .u8 ((q ||| 2 ^ i : Nat) : Int)) ∧ w = w' := by
  go_enter Tryz.func292, Tryz.ntmps292
  go_wp2
  go_ret
  refine ⟨ret_int ?_, rfl⟩
  have hp : (2:Nat)^i < 256 := Nat.pow_lt_pow_right (by omega) hi
  have e : (2:Int)^i % 256 = ((2^i : Nat) : Int) := by
    have : ((2^i : Nat) : Int) = (2:Int)^i := by simp
    have := pow_pos i
    omega
  rw [e]
  exact u8_or_nat q (2^i) h hp

/-- IS THE FIRST REGION THE BETTER ONE? -/
def cm (l : Int) (q : Nat) (l' : Int) (q' : Nat) : Bool := decide (cnt l' q' < cnt l q ∨ (cnt l q = cnt l' q' ∧ l < l'))

set_option maxHeartbeats 2000000 in
theorem coversMore_any (b l b' l' : Int) (q q' : Nat) (w : World) (h : q < 256) (h' : q' < 256) (hl : 5 ≤ l) (hl2 : l ≤ 14) (hl' : 5 ≤ l') (hl2' : l' ≤ 14) :
    Calls Tryz.prog 286 #[.agg #[.int .i64 b, .int .i64 l, .int .i64 (255 - (q : Int)), .bool false, .bool false, .bool false], .agg #[.int .i64 b', .int .i64 l', .int .i64 (255 - (q' : Int)), .bool false, .bool false, .bool false]] w fun e w' => e = .returned (.bool (cm l q l' q')) ∧ Below w.heap.size w w' := by
  have ka := (Blk.new w #[.int .i64 b, .int .i64 l, .int .i64 (255 - (q : Int)), .bool false, .bool false, .bool false] 158).alloc (.cells #[.int .i64 b', .int .i64 l', .int .i64 (255 - (q' : Int)), .bool false, .bool false, .bool false] 158)
  have kb := Blk.new (w.alloc (.cells #[.int .i64 b, .int .i64 l, .int .i64 (255 - (q : Int)), .bool false, .bool false, .bool false] 158)) #[.int .i64 b', .int .i64 l', .int .i64 (255 - (q' : Int)), .bool false, .bool false, .bool false] 158
  simp only [World.size_alloc] at kb
  have hB0 : Below w.heap.size w ((w.alloc (.cells #[.int .i64 b, .int .i64 l, .int .i64 (255 - (q : Int)), .bool false, .bool false, .bool false] 158)).alloc (.cells #[.int .i64 b', .int .i64 l', .int .i64 (255 - (q' : Int)), .bool false, .bool false, .bool false] 158)) := ((Below.refl _ _).alloc (Nat.le_refl _) _).alloc (by simp) _
  have A1 := hide (addressCount_any b l q false false false)
  have A2 := hide (addressCount_any b' l' q' false false false)
  obtain ⟨o, ho⟩ : ∃ o, o = 255 - (q : Int) := ⟨_, rfl⟩
  obtain ⟨o', ho'⟩ : ∃ o', o' = 255 - (q' : Int) := ⟨_, rfl⟩
  have HM := hide (show cm l q l' q' = decide (cnt l' q' < cnt l q ∨ (cnt l q = cnt l' q' ∧ l < l')) from rfl)
  rw [← ho] at A1 ka kb hB0 ⊢
  rw [← ho'] at A2 ka kb hB0 ⊢
  clear ho ho'
  generalize cnt l q = c1 at *
  generalize cnt l' q' = c2 at *
  go_enter Tryz.func286, Tryz.ntmps286
  go_wp2
  go_region_held3 (fun w' => w'.cell? ⟨w.heap.size, 0, none⟩ = some (.int .i64 b) ∧ w'.cell? ⟨w.heap.size, 1, none⟩ = some (.int .i64 l) ∧ w'.cell? ⟨w.heap.size, 2, none⟩ = some (.int .i64 o) ∧ w'.cell? ⟨w.heap.size, 3, none⟩ = some (.bool false) ∧ w'.cell? ⟨w.heap.size, 4, none⟩ = some (.bool false) ∧ w'.cell? ⟨w.heap.size, 5, none⟩ = some (.bool false) ∧ w'.cell? ⟨w.heap.size + 1, 0, none⟩ = some (.int .i64 b') ∧ w'.cell? ⟨w.heap.size + 1, 1, none⟩ = some (.int .i64 l') ∧ w'.cell? ⟨w.heap.size + 1, 2, none⟩ = some (.int .i64 o') ∧ w'.cell? ⟨w.heap.size + 1, 3, none⟩ = some (.bool false) ∧ w'.cell? ⟨w.heap.size + 1, 4, none⟩ = some (.bool false) ∧ w'.cell? ⟨w.heap.size + 1, 5, none⟩ = some (.bool false)) (go_keep)
    (first
      | (go_at_call_of 283 (Value.int .i64 l); refine (A1.out _ h hl hl2).mono ?_; rintro e w1 ⟨rfl, hb1⟩; replace hb1 := undrew hb1; obtain ⟨q1, q2, q3, q4, q5, q6, q7⟩ := (ka.below hb1).six'; obtain ⟨p1, p2, p3, p4, p5, p6, p7⟩ := (kb.below hb1).six')
      | (go_at_call_of 283 (Value.int .i64 l'); refine (A2.out _ h' hl' hl2').mono ?_; rintro e w2 ⟨rfl, hb2⟩; replace hb2 := hb1.trans (hb2.mono hb1.size); obtain ⟨q1, q2, q3, q4, q5, q6, q7⟩ := (ka.below hb2).six'; obtain ⟨p1, p2, p3, p4, p5, p6, p7⟩ := (kb.below hb2).six'))
  have ka2 := ka.below hb2
  have kb2 := kb.below hb2
  have hB2 := hB0.trans (hb2.mono hB0.size)
  clear hb1 hb2 ka kb hB0
  by_cases hc : c1 = c2
  · subst hc
    have hne : (c1 != c1) = false := by simp
    have HF := hide (show decide (c1 < c1 ∨ (c1 = c1 ∧ l < l')) = decide (l < l') from by simp)
    obtain ⟨q1, q2, q3, q4, q5, q6, q7⟩ := ka2.six'
    obtain ⟨p1, p2, p3, p4, p5, p6, p7⟩ := kb2.six'
    go_wp2
    go_ret
    exact ⟨ret_bool (by rw [HM.out, HF.out]), hB2⟩
  · have hne : (c1 != c2) = true := by simpa using hc
    have HF := hide (show decide (c2 < c1 ∨ (c1 = c2 ∧ l < l')) = decide (c2 < c1) from by simp [hc])
    clear hc
    obtain ⟨q1, q2, q3, q4, q5, q6, q7⟩ := ka2.six'
    obtain ⟨p1, p2, p3, p4, p5, p6, p7⟩ := kb2.six'
    go_wp2
    go_region_held3 (fun w' => w'.cell? ⟨w.heap.size, 0, none⟩ = some (.int .i64 b) ∧ w'.cell? ⟨w.heap.size, 1, none⟩ = some (.int .i64 l) ∧ w'.cell? ⟨w.heap.size, 2, none⟩ = some (.int .i64 o) ∧ w'.cell? ⟨w.heap.size, 3, none⟩ = some (.bool false) ∧ w'.cell? ⟨w.heap.size, 4, none⟩ = some (.bool false) ∧ w'.cell? ⟨w.heap.size, 5, none⟩ = some (.bool false) ∧ w'.cell? ⟨w.heap.size + 1, 0, none⟩ = some (.int .i64 b') ∧ w'.cell? ⟨w.heap.size + 1, 1, none⟩ = some (.int .i64 l') ∧ w'.cell? ⟨w.heap.size + 1, 2, none⟩ = some (.int .i64 o') ∧ w'.cell? ⟨w.heap.size + 1, 3, none⟩ = some (.bool false) ∧ w'.cell? ⟨w.heap.size + 1, 4, none⟩ = some (.bool false) ∧ w'.cell? ⟨w.heap.size + 1, 5, none⟩ = some (.bool false)) (go_keep)
      (first
        | (go_at_call_of 283 (Value.int .i64 l); refine (A1.out _ h hl hl2).mono ?_; rintro e w3 ⟨rfl, hb1⟩; replace hb1 := undrew hb1; obtain ⟨q1, q2, q3, q4, q5, q6, q7⟩ := (ka2.below hb1).six'; obtain ⟨p1, p2, p3, p4, p5, p6, p7⟩ := (kb2.below hb1).six')
        | (go_at_call_of 283 (Value.int .i64 l'); refine (A2.out _ h' hl' hl2').mono ?_; rintro e w4 ⟨rfl, hb2⟩; replace hb2 := hb1.trans (hb2.mono hb1.size); obtain ⟨q1, q2, q3, q4, q5, q6, q7⟩ := (ka2.below hb2).six'; obtain ⟨p1, p2, p3, p4, p5, p6, p7⟩ := (kb2.below hb2).six'))
    have hB4 := hB2.trans (hb2.mono hB2.size)
    clear hb1 hb2 q1 q2 q3 q4 q5 q6 q7 p1 p2 p3 p4 p5 p6 p7
    go_wp2
    go_ret
    exact ⟨ret_bool (by rw [HM.out, HF.out]), hB4⟩
end Go.Proofs.YtngdgogjlpjjpaeGreat

namespace Go.Proofs.YtngdgogjlpjjpaeGreat
open Go.RowKit
set_option linter.unusedVariables false

/-- WHAT A CALL MAY TURN: the blocks S, and new ones. -/
structure Turn (S : Nat → Prop) (w w' : World) : Prop where
  os : w'.os = w.os
  tape : w'.tape = w.tape
  output : w'.output = w.output
  size : w.heap.size ≤ w'.heap.size
  block : ∀ k, k < w.heap.size → ¬ S k → w'.heap[k]? = w.heap[k]?
theorem Turn.refl (S : Nat → Prop) (w : World) : Turn S w w := ⟨rfl, rfl, rfl, Nat.le_refl _, fun _ _ _ => rfl⟩
theorem Turn.trans {S : Nat → Prop} {a b c : World} (h : Turn S a b) (k : Turn S b c) : Turn S a c :=
  ⟨k.os.trans h.os, k.tape.trans h.tape, k.output.trans h.output, Nat.le_trans h.size k.size, fun j hj hs => (k.block j (Nat.lt_of_lt_of_le hj h.size) hs).trans (h.block j hj hs)⟩
theorem Turn.mono {S S' : Nat → Prop} {w w' : World} (h : Turn S w w') (hs : ∀ k, S k → S' k) : Turn S' w w' := ⟨h.os, h.tape, h.output, h.size, fun k hk hn => h.block k hk (fun e => hn (hs k e))⟩
theorem turn_below {S : Nat → Prop} {w w' : World} (h : Below w.heap.size w w') : Turn S w w' := ⟨h.os, h.tape, h.output, h.size, fun k hk _ => h.block k hk⟩
theorem turn_alloc {S : Nat → Prop} (w : World) (o : Obj) : Turn S w (w.alloc o) := turn_below ((Below.refl _ _).alloc (Nat.le_refl _) _)
theorem below_turn {B : Nat} {S : Nat → Prop} {a w w' : World} (h : Below B a w) (ht : Turn S w w') (hS : ∀ k, S k → B ≤ k) (hB : B ≤ w.heap.size) : Below B a w' :=
  ⟨ht.os.trans h.os, ht.tape.trans h.tape, ht.output.trans h.output, Nat.le_trans h.size ht.size, fun k hk => (ht.block k (by omega) (fun e => by have := hS k e; omega)).trans (h.block k hk)⟩
theorem turn_blk {S : Nat → Prop} {w w' : World} {k : Nat} {cs : Array Value} {t : TypeId} (ht : Turn S w w') (h : Blk w k cs t) (hk : ¬ S k) : Blk w' k cs t := by
  have := ht.block k h.lt hk
  unfold Blk at *; rw [this]; exact h
theorem turn_bs {S : Nat → Prop} {w w' : World} {a : Option Addr} {n cap : Nat} {zs : List Int} (ht : Turn S w w') (h : BS w a n cap zs) (hk : ∀ k, S k → ∀ b off, a = some ⟨b, off, none⟩ → b ≠ k) : BS w' a n cap zs := by
  obtain ⟨h1, h2, h3, h4, h5⟩ := h
  refine ⟨h1, h2, h3, fun hn => ?_, h5⟩
  obtain ⟨b, off, ha, hc⟩ := h4 hn
  refine ⟨b, off, ha, fun i hi => ?_⟩
  have := hc i hi
  have hl := World.block_lt_of_cell? w _ this
  rw [World.cell?_of_block (w := w) (ht.block b hl (fun e => hk b e b off ha rfl))]
  exact this

theorem addr_add (b off i : Nat) : (Addr.add ⟨b, off, none⟩ i) = ⟨b, off + i, none⟩ := by
  simp only [Addr.add]
  split
  · next h => subst h; rfl
  · rfl
end Go.Proofs.YtngdgogjlpjjpaeGreat

namespace Go.Proofs.YtngdgogjlpjjpaeGreat
open Go.RowKit
set_option linter.unusedVariables false

/-- THE BEST REGION SO FAR, at block B. -/
def Bst (w : World) (B : Nat) (fd : Bool) (b l o : Int) : Prop :=
  Blk w B #[.func (Fn.func 286) #[] #[], .bool fd, .int .i64 b, .int .i64 l, .int .i64 o, .bool false, .bool false, .bool false] 308
theorem Bst.cells {w : World} {B : Nat} {fd : Bool} {b l o : Int} (h : Bst w B fd b l o) :
    w.cell? ⟨B, 0, none⟩ = some (.func (Fn.func 286) #[] #[]) ∧ w.cell? ⟨B, 1, none⟩ = some (.bool fd) ∧ w.cell? ⟨B, 2, none⟩ = some (.int .i64 b) ∧ w.cell? ⟨B, 3, none⟩ = some (.int .i64 l) ∧ w.cell? ⟨B, 4, none⟩ = some (.int .i64 o) ∧ w.cell? ⟨B, 5, none⟩ = some (.bool false) ∧ w.cell? ⟨B, 6, none⟩ = some (.bool false) ∧ w.cell? ⟨B, 7, none⟩ = some (.bool false) ∧ ∀ i, w.frozen? ⟨B, i, none⟩ = false :=
  ⟨by rw [Blk.cell h]; rfl, by rw [Blk.cell h]; rfl, by rw [Blk.cell h]; rfl, by rw [Blk.cell h]; rfl, by rw [Blk.cell h]; rfl, by rw [Blk.cell h]; rfl, by rw [Blk.cell h]; rfl, by rw [Blk.cell h]; rfl, fun i => Blk.frozen h i⟩

theorem turn_drew {S : Nat → Prop} {a W : World} (h : Turn S a W) (n : Nat) : Turn S a (W.drewN n) := ⟨h.os, h.tape, h.output, h.size, h.block⟩
def taken (W : World) (B : Nat) (b l o : Int) : World :=
  ((((((W.setCell ⟨B, 1, none⟩ (.bool true)).setCell ⟨B, 2, none⟩ (.int .i64 b)).setCell ⟨B, 3, none⟩ (.int .i64 l)).setCell ⟨B, 4, none⟩ (.int .i64 o)).setCell ⟨B, 5, none⟩ (.bool false)).setCell ⟨B, 6, none⟩ (.bool false)).setCell ⟨B, 7, none⟩ (.bool false)
theorem taken_bst {W : World} {B : Nat} {fd : Bool} {b' l' o' : Int} (h : Bst W B fd b' l' o') (b l o : Int) : Bst (taken W B b l o) B true b l o := by
  have := ((((((Blk.set h 1 (.bool true)).set 2 (.int .i64 b)).set 3 (.int .i64 l)).set 4 (.int .i64 o)).set 5 (.bool false)).set 6 (.bool false)).set 7 (.bool false)
  unfold Bst taken
  simpa using this
theorem taken_turn (W : World) (B : Nat) (b l o : Int) : Turn (fun j => j = B) W (taken W B b l o) := by
  have T : ∀ (X : World) (i : Nat) (v : Value), Turn (fun j => j = B) X (X.setCell ⟨B, i, none⟩ v) := fun X i v => ⟨rfl, rfl, rfl, by rw [size_setCell]; exact Nat.le_refl _, fun j hj hn => heap_setCell_other _ _ _ _ hn⟩
  unfold taken
  exact ((((((T _ _ _).trans (T _ _ _)).trans (T _ _ _)).trans (T _ _ _)).trans (T _ _ _)).trans (T _ _ _)).trans (T _ _ _)

set_option maxHeartbeats 2000000 in
theorem offer_new (B : Nat) (b l o b' l' o' : Int) (w : World) (h : Bst w B false b' l' o') :
    Calls Tryz.prog 294 #[.pointer (some ⟨B, 0, none⟩), .agg #[.int .i64 b, .int .i64 l, .int .i64 o, .bool false, .bool false, .bool false]] w fun e w' => e = .returned (.tuple #[]) ∧ Bst w' B true b l o ∧ Turn (fun j => j = B) w w' := by
  have hlt := Blk.lt h
  obtain ⟨q1, q2, q3, q4, q5, q6, q7, q8, q9⟩ := h.cells
  have HF := hide (show Bst (w.alloc (.cells #[.int .i64 b, .int .i64 l, .int .i64 o, .bool false, .bool false, .bool false] 158)) B false b' l' o' from Blk.alloc h _)
  have HT := hide (turn_alloc (S := fun j => j = B) w (.cells #[.int .i64 b, .int .i64 l, .int .i64 o, .bool false, .bool false, .bool false] 158))
  clear h
  go_enter Tryz.func294, Tryz.ntmps294
  go_wp2
  go_quiet (fail)
  go_wp2
  go_end0
  exact ⟨rfl, taken_bst (W := (w.alloc (.cells #[.int .i64 b, .int .i64 l, .int .i64 o, .bool false, .bool false, .bool false] 158)).drewN _) HF.out b l o, (turn_drew HT.out _).trans (taken_turn _ B b l o)⟩

def bstIf (w : World) (B : Nat) (t : Bool) (b l o b' l' o' : Int) : Prop := Bst w B true (if t then b else b') (if t then l else l') (if t then o else o')

set_option maxHeartbeats 4000000 in
theorem offer_cmp (B : Nat) (b l b' l' : Int) (q q' : Nat) (w : World) (h : Bst w B true b' l' (255 - (q' : Int))) (hq : q < 256) (hq' : q' < 256) (hl : 5 ≤ l) (hl2 : l ≤ 14) (hl' : 5 ≤ l') (hl2' : l' ≤ 14) :
    Calls Tryz.prog 294 #[.pointer (some ⟨B, 0, none⟩), .agg #[.int .i64 b, .int .i64 l, .int .i64 (255 - (q : Int)), .bool false, .bool false, .bool false]] w fun e w' => e = .returned (.tuple #[]) ∧ bstIf w' B (cm l q l' q') b l (255 - (q : Int)) b' l' (255 - (q' : Int)) ∧ Turn (fun j => j = B) w w' := by
  have hlt := Blk.lt h
  have C1 := hide (coversMore_any b l b' l' q q')
  have kb := Blk.new w #[.int .i64 b, .int .i64 l, .int .i64 (255 - (q : Int)), .bool false, .bool false, .bool false] 158
  have hb : Bst (w.alloc (.cells #[.int .i64 b, .int .i64 l, .int .i64 (255 - (q : Int)), .bool false, .bool false, .bool false] 158)) B true b' l' (255 - (q' : Int)) := Blk.alloc h _
  have HT := hide (turn_alloc (S := fun j => j = B) w (.cells #[.int .i64 b, .int .i64 l, .int .i64 (255 - (q : Int)), .bool false, .bool false, .bool false] 158))
  obtain ⟨o, ho⟩ : ∃ o, o = 255 - (q : Int) := ⟨_, rfl⟩
  obtain ⟨o', ho'⟩ : ∃ o', o' = 255 - (q' : Int) := ⟨_, rfl⟩
  rw [← ho] at C1 kb hb HT ⊢
  rw [← ho'] at C1 hb ⊢
  clear ho ho' h
  obtain ⟨q1, q2, q3, q4, q5, q6, q7, q8, q9⟩ := hb.cells
  generalize cm l q l' q' = t at *
  go_enter Tryz.func294, Tryz.ntmps294
  go_wp2
  go_region_held3 (fun w' => w'.cell? ⟨w.heap.size, 0, none⟩ = some (.int .i64 b) ∧ w'.cell? ⟨w.heap.size, 1, none⟩ = some (.int .i64 l) ∧ w'.cell? ⟨w.heap.size, 2, none⟩ = some (.int .i64 o) ∧ w'.cell? ⟨w.heap.size, 3, none⟩ = some (.bool false) ∧ w'.cell? ⟨w.heap.size, 4, none⟩ = some (.bool false) ∧ w'.cell? ⟨w.heap.size, 5, none⟩ = some (.bool false) ∧ w'.cell? ⟨B, 0, none⟩ = some (.func (Fn.func 286) #[] #[]) ∧ w'.cell? ⟨B, 1, none⟩ = some (.bool true) ∧ w'.cell? ⟨B, 2, none⟩ = some (.int .i64 b') ∧ w'.cell? ⟨B, 3, none⟩ = some (.int .i64 l') ∧ w'.cell? ⟨B, 4, none⟩ = some (.int .i64 o') ∧ w'.cell? ⟨B, 5, none⟩ = some (.bool false) ∧ w'.cell? ⟨B, 6, none⟩ = some (.bool false) ∧ w'.cell? ⟨B, 7, none⟩ = some (.bool false)) (go_keep)
    (first
      | (go_at_call 286; refine (C1.out _ hq hq' hl hl2 hl' hl2').mono ?_; rintro e w1 ⟨rfl, hb1⟩; replace hb1 := undrew hb1; obtain ⟨p1, p2, p3, p4, p5, p6, p7⟩ := (kb.below hb1).six'; obtain ⟨q1, q2, q3, q4, q5, q6, q7, q8, q9⟩ := Bst.cells (show Bst w1 B true b' l' o' from Blk.below hb hb1)))
  have hb' : Bst w1 B true b' l' o' := Blk.below hb hb1
  have T1 := HT.out.trans (turn_below (S := fun j => j = B) hb1)
  cases t
  · go_wp2
    go_end0
    exact ⟨rfl, hb', T1⟩
  · go_wp2
    go_end0
    exact ⟨rfl, taken_bst hb' b l o, T1.trans (taken_turn _ B b l o)⟩
end Go.Proofs.YtngdgogjlpjjpaeGreat

namespace Go.Proofs.YtngdgogjlpjjpaeGreat
open Go.RowKit
set_option linter.unusedVariables false

/-- j parts from part i0 on -/
def runq (i0 j : Nat) : Nat := 2 ^ (i0 + j) - 2 ^ i0
theorem runq_zero (i0 : Nat) : runq i0 0 = 0 := by simp [runq]
theorem runq_step : ∀ i0, i0 < 8 → ∀ j, j < 8 → i0 + j < 8 → (runq i0 j ||| 2 ^ (i0 + j)) = runq i0 (j + 1) := by decide +kernel
theorem runq_lt : ∀ i0, i0 < 8 → ∀ j, j < 9 → i0 + j ≤ 8 → runq i0 j < 256 := by decide +kernel
theorem runq_pop : ∀ i0, i0 < 8 → ∀ j, j < 9 → i0 + j ≤ 8 → popc (runq i0 j) = j := by decide +kernel
theorem runq_full : ∀ i0, i0 < 8 → ∀ j, j < 9 → i0 + j ≤ 8 → (runq i0 j = 255 ↔ j = 8) := by decide +kernel

/-- THE STATE OF THE CHOICE: nothing yet, or a base, a Log and the parts. -/
abbrev CSt := Option (Int × Int × Nat)
def sCnt : CSt → Int
  | none => 0
  | some (b, l, q) => cnt l q
def StOk (s : CSt) (L : Int) : Prop := ∀ b l q, s = some (b, l, q) → 5 ≤ l ∧ l < L ∧ q < 256 ∧ 0 < cnt l q
/-- the state as it lies in memory -/
def Holds (w : World) (B : Nat) : CSt → Prop
  | none => Bst w B false 0 0 0
  | some (b, l, q) => Bst w B true b l (255 - (q : Int))
/-- what is kept when a region of Log L is offered -/
def keep (s : CSt) (b L : Int) (q : Nat) : CSt := if sCnt s < cnt L q then some (b, L, q) else s


theorem cnt_run (l : Int) (P : Int) (hP : (2:Int)^(l - 3).toNat = P) (i0 j : Nat) (h0 : i0 < 8) (h : i0 + j ≤ 8) : cnt l (runq i0 j) = j * P := by
  unfold cnt
  rw [hP, runq_pop i0 h0 j (by omega) h]

/-- a region is offered: none was there -/
theorem offer_none (B : Nat) (b l : Int) (q : Nat) (w : World) (h : Holds w B none) :
    Calls Tryz.prog 294 #[.pointer (some ⟨B, 0, none⟩), .agg #[.int .i64 b, .int .i64 l, .int .i64 (255 - (q : Int)), .bool false, .bool false, .bool false]] w fun e w' => e = .returned (.tuple #[]) ∧ Holds w' B (some (b, l, q)) ∧ Turn (fun j => j = B) w w' :=
  offer_new B b l (255 - (q : Int)) 0 0 0 w h
/-- a region is offered beside another -/
theorem offer_some (B : Nat) (b l b' l' : Int) (q q' : Nat) (w : World) (h : Holds w B (some (b', l', q'))) (hq : q < 256) (hq' : q' < 256) (hl : 5 ≤ l) (hl2 : l ≤ 14) (hl' : 5 ≤ l') (hl2' : l' ≤ 14) :
    Calls Tryz.prog 294 #[.pointer (some ⟨B, 0, none⟩), .agg #[.int .i64 b, .int .i64 l, .int .i64 (255 - (q : Int)), .bool false, .bool false, .bool false]] w fun e w' => e = .returned (.tuple #[]) ∧ Holds w' B (if cm l q l' q' then some (b, l, q) else some (b', l', q')) ∧ Turn (fun j => j = B) w w' :=
  (offer_cmp B b l b' l' q q' w h hq hq' hl hl2 hl' hl2').mono fun e w' he => ⟨he.1, by
    have := he.2.1
    cases hc : cm l q l' q'
    · rw [hc] at this; exact this
    · rw [hc] at this; exact this, he.2.2⟩

/-- the state behind j parts of Log l -/
def stJ (s : CSt) (b l : Int) (i0 j : Nat) : CSt := if 8 ≤ l ∨ j = 8 then keep s b l (runq i0 j) else s

theorem stJ_zero (s : CSt) (b l P : Int) (hP : (2:Int)^(l - 3).toNat = P) (i0 : Nat) (h0 : i0 < 8) (hs : 0 ≤ sCnt s) : stJ s b l i0 0 = s := by
  unfold stJ keep
  rw [cnt_run l P hP i0 0 h0 (by omega)]
  simp
  omega

/-- what an offer of part j + 1 makes of the state -/
theorem offer_step (B : Nat) (s : CSt) (b l P : Int) (hP : (2:Int)^(l - 3).toNat = P) (hP0 : 0 < P) (i0 j : Nat) (w : World) (h0 : i0 < 8) (hj : i0 + j < 8) (hl : 5 ≤ l) (hl2 : l ≤ 14) (hs : StOk s l) (hs0 : 0 ≤ sCnt s) (h8 : 8 ≤ l ∨ j + 1 = 8) (h : Holds w B (stJ s b l i0 j)) :
    Calls Tryz.prog 294 #[.pointer (some ⟨B, 0, none⟩), .agg #[.int .i64 b, .int .i64 l, .int .i64 (255 - (runq i0 (j + 1) : Int)), .bool false, .bool false, .bool false]] w fun e w' => e = .returned (.tuple #[]) ∧ Holds w' B (stJ s b l i0 (j + 1)) ∧ Turn (fun j => j = B) w w' := by
  have hq1 := runq_lt i0 h0 (j + 1) (by omega) (by omega)
  have hc1 := cnt_run l P hP i0 (j + 1) h0 (by omega)
  have hc0 := cnt_run l P hP i0 j h0 (by omega)
  have hmul : ((j + 1 : Nat) : Int) * P = (j : Int) * P + P := by rw [Int.natCast_add, Int.add_mul]; simp
  have hjP : 0 ≤ (j : Int) * P := Int.mul_nonneg (by omega) (by omega)
  have e1 : stJ s b l i0 (j + 1) = keep s b l (runq i0 (j + 1)) := by unfold stJ; rw [if_pos h8]
  rw [e1]
  by_cases hk : 8 ≤ l ∧ sCnt s < cnt l (runq i0 j)
  · have e0 : stJ s b l i0 j = some (b, l, runq i0 j) := by unfold stJ keep; rw [if_pos (Or.inl hk.1), if_pos hk.2]
    rw [e0] at h
    refine (offer_some B b l b l (runq i0 (j + 1)) (runq i0 j) w h hq1 (runq_lt i0 h0 j (by omega) (by omega)) hl hl2 hl hl2).mono fun e w' he => ?_
    have hcm : cm l (runq i0 (j + 1)) l (runq i0 j) = true := by unfold cm; rw [hc1, hc0, hmul]; simp; omega
    have ek : keep s b l (runq i0 (j + 1)) = some (b, l, runq i0 (j + 1)) := by unfold keep; rw [if_pos (by rw [hc1, hmul]; rw [hc0] at hk; omega)]
    rw [hcm] at he
    rw [ek]
    exact he
  · have e0 : stJ s b l i0 j = s := by
      unfold stJ
      by_cases h8' : 8 ≤ l
      · rw [if_pos (Or.inl h8')]
        unfold keep
        rw [if_neg (fun e => hk ⟨h8', e⟩)]
      · rw [if_neg (by omega)]
    rw [e0] at h
    match s, h, hs, hs0, hk with
    | none, h, _, _, _ =>
      have ek : keep none b l (runq i0 (j + 1)) = some (b, l, runq i0 (j + 1)) := by unfold keep; rw [if_pos (by rw [hc1, hmul]; simp [sCnt]; omega)]
      rw [ek]
      exact offer_none B b l (runq i0 (j + 1)) w h
    | some (b', l', q'), h, hs, hs0, hk =>
      obtain ⟨g1, g2, g3, g4⟩ := hs b' l' q' rfl
      refine (offer_some B b l b' l' (runq i0 (j + 1)) q' w h hq1 g3 hl hl2 g1 (by omega)).mono fun e w' he => ?_
      have hcm : cm l (runq i0 (j + 1)) l' q' = decide (cnt l' q' < cnt l (runq i0 (j + 1))) := by
        unfold cm
        rw [Bool.eq_iff_iff]
        simp
        intro _ h
        omega
      rw [hcm] at he
      by_cases hlt : cnt l' q' < cnt l (runq i0 (j + 1))
      · have ek : keep (some (b', l', q')) b l (runq i0 (j + 1)) = some (b, l, runq i0 (j + 1)) := by
          show (if cnt l' q' < cnt l (runq i0 (j + 1)) then some (b, l, runq i0 (j + 1)) else some (b', l', q')) = _
          rw [if_pos hlt]
        rw [ek]
        simp only [decide_eq_true hlt, if_true] at he
        exact he
      · have ek : keep (some (b', l', q')) b l (runq i0 (j + 1)) = some (b', l', q') := by
          show (if cnt l' q' < cnt l (runq i0 (j + 1)) then some (b, l, runq i0 (j + 1)) else some (b', l', q')) = _
          rw [if_neg hlt]
        rw [ek]
        simp only [decide_eq_false hlt] at he
        exact he
end Go.Proofs.YtngdgogjlpjjpaeGreat
