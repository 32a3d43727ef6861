import Derived.Test.YtngdgogjlpjjpaeGreatJ33
namespace Go.Proofs.YtngdgogjlpjjpaeGreat
open Go.RowKit
set_option linter.unusedVariables false
set_option linter.unusedSimpArgs false
set_option maxRecDepth 100000

/-- numbers that a layout holds are numbers -/
structure LayR (L : Lay) : Prop where
  p : ∀ x ∈ L.places, ∀ z ∈ x.banks, wfi z
  s : ∀ z ∈ L.slots, wfi z
  n : L.places.length ≤ 1048576 ∧ L.targets.length ≤ 1048576 ∧ ∀ x ∈ L.targets, x.length ≤ 1048576

set_option maxHeartbeats 2000000 in
theorem eqLayout_same {w : World} {base base' : Nat} {L : Lay} {a0 : Option Addr} {c0 : Nat} {xs : List PB} {a2 : Option Addr} {c2 : Nat} {a5 : Option Addr} {c5 : Nat} {ts : List TB} {a0' : Option Addr} {c0' : Nat} {xs' : List PB} {a2' : Option Addr} {c2' : Nat} {a5' : Option Addr} {c5' : Nat} {ts' : List TB} (R : LayR L) (h : LayO w base L a0 c0 xs a2 c2 a5 c5 ts) (h' : LayO w base' L a0' c0' xs' a2' c2' a5' c5' ts') :
    Calls Tryz.prog 16 #[.agg (layV L a0 c0 xs a2 c2 a5 c5 ts), .agg (layV L a0' c0' xs' a2' c2' a5' c5' ts')] w fun e w' => e = .returned (.bool true) ∧ Below w.heap.size w w' := by
  have lx : xs'.length = xs.length := by have := congrArg List.length (h.ps.trans h'.ps.symm); simp at this; omega
  have lt : ts'.length = ts.length := by have := congrArg List.length (h.tt.trans h'.tt.symm); simp at this; omega
  have hpl : xs.length = L.places.length := by rw [← h.ps, List.length_map]
  have htl : ts.length = L.targets.length := by rw [← h.tt, List.length_map]
  have hp' := h'.p
  have ht' := h'.t
  rw [lx] at hp'
  rw [lt] at ht'
  unfold layV
  rw [lx, lt]
  have hB0 : Below w.heap.size w ((w.alloc (.cells #[.slice a0 xs.length c0, .int .i64 L.stack, .slice a2 L.slots.length c2, .int .i64 L.flash, .int .i64 L.ram, .slice a5 ts.length c5] 36)).alloc (.cells #[.slice a0' xs.length c0', .int .i64 L.stack, .slice a2' L.slots.length c2', .int .i64 L.flash, .int .i64 L.ram, .slice a5' ts.length c5'] 36)) := ((Below.refl _ _).alloc (Nat.le_refl _) _).alloc (by simp) _
  have u := (Blk.new w #[.slice a0 xs.length c0, .int .i64 L.stack, .slice a2 L.slots.length c2, .int .i64 L.flash, .int .i64 L.ram, .slice a5 ts.length c5] 36).alloc (.cells #[.slice a0' xs.length c0', .int .i64 L.stack, .slice a2' L.slots.length c2', .int .i64 L.flash, .int .i64 L.ram, .slice a5' ts.length c5'] 36)
  have v := Blk.new (w.alloc (.cells #[.slice a0 xs.length c0, .int .i64 L.stack, .slice a2 L.slots.length c2, .int .i64 L.flash, .int .i64 L.ram, .slice a5 ts.length c5] 36)) #[.slice a0' xs.length c0', .int .i64 L.stack, .slice a2' L.slots.length c2', .int .i64 L.flash, .int .i64 L.ram, .slice a5' ts.length c5'] 36
  simp only [World.size_alloc] at v
  have n1 : (L.stack != L.stack) = false := by simp
  have n2 : (L.flash != L.flash) = false := by simp
  have n3 : (L.ram != L.ram) = false := by simp
  have H1 := hide (fun (W : World) (hb : Below w.heap.size w W) => eqPlaceS_same a0 a0' xs.length c0 c0' base base base' base' xs xs' W (h.p.below hb) (hp'.below hb) rfl (h.ps.trans h'.ps.symm) (by have := R.n.1; omega) (fun x hx => R.p x.1 (by rw [← h.ps]; exact List.mem_map.2 ⟨x, hx, rfl⟩)))
  have H2 := hide (fun (W : World) (hb : Below w.heap.size w W) => eqIntS_any a2 a2' L.slots.length c2 L.slots.length c2' L.slots L.slots W (og_is (h.s.below hb) R.s) (og_is (h'.s.below hb) R.s))
  have H3 := hide (fun (W : World) (hb : Below w.heap.size w W) => eqTargetSS_same a5 a5' ts.length c5 c5' base base base' base' ts ts' W (h.t.below hb) (ht'.below hb) rfl (h.tt.trans h'.tt.symm) (by have := R.n.2.1; omega) (fun x hx => R.n.2.2 x.1 (by rw [← h.tt]; exact List.mem_map.2 ⟨x, hx, rfl⟩)))
  clear h h' hp' ht' lx lt hpl htl
  go_enter Tryz.func16, Tryz.ntmps16
  go_wp2_with fail
  refine (H1.out _ hB0).mono ?_
  rintro e w1 ⟨rfl, hb⟩
  have hB1 := hB0.trans (hb.mono (by have := hB0.size; simp; omega))
  have u1 := u.below hb
  have v1 := v.below hb
  clear hB0 u v hb
  have u := u1
  have v := v1
  clear u1 v1
  have p0 : w1.cell? ⟨w.heap.size, 0, none⟩ = some (.slice a0 xs.length c0) := u.cell 0
  have p1 : w1.cell? ⟨w.heap.size, 1, none⟩ = some (.int .i64 L.stack) := u.cell 1
  have p2 : w1.cell? ⟨w.heap.size, 2, none⟩ = some (.slice a2 L.slots.length c2) := u.cell 2
  have p3 : w1.cell? ⟨w.heap.size, 3, none⟩ = some (.int .i64 L.flash) := u.cell 3
  have p4 : w1.cell? ⟨w.heap.size, 4, none⟩ = some (.int .i64 L.ram) := u.cell 4
  have p5 : w1.cell? ⟨w.heap.size, 5, none⟩ = some (.slice a5 ts.length c5) := u.cell 5
  have q0 : w1.cell? ⟨w.heap.size + 1, 0, none⟩ = some (.slice a0' xs.length c0') := v.cell 0
  have q1 : w1.cell? ⟨w.heap.size + 1, 1, none⟩ = some (.int .i64 L.stack) := v.cell 1
  have q2 : w1.cell? ⟨w.heap.size + 1, 2, none⟩ = some (.slice a2' L.slots.length c2') := v.cell 2
  have q3 : w1.cell? ⟨w.heap.size + 1, 3, none⟩ = some (.int .i64 L.flash) := v.cell 3
  have q4 : w1.cell? ⟨w.heap.size + 1, 4, none⟩ = some (.int .i64 L.ram) := v.cell 4
  have q5 : w1.cell? ⟨w.heap.size + 1, 5, none⟩ = some (.slice a5' ts.length c5') := v.cell 5
  go_wp2_with fail
  refine (H2.out _ hB1).mono ?_
  rintro e w2 ⟨he, hb⟩
  obtain rfl : e = .returned (.bool true) := by rw [he]; simp
  clear he
  have hB2 := hB1.trans (hb.mono hB1.size)
  have u1 := u.below hb
  have v1 := v.below hb
  clear hB1 u v hb p0 p1 p2 p3 p4 p5 q0 q1 q2 q3 q4 q5
  have u := u1
  have v := v1
  clear u1 v1
  have p0 : w2.cell? ⟨w.heap.size, 0, none⟩ = some (.slice a0 xs.length c0) := u.cell 0
  have p1 : w2.cell? ⟨w.heap.size, 1, none⟩ = some (.int .i64 L.stack) := u.cell 1
  have p2 : w2.cell? ⟨w.heap.size, 2, none⟩ = some (.slice a2 L.slots.length c2) := u.cell 2
  have p3 : w2.cell? ⟨w.heap.size, 3, none⟩ = some (.int .i64 L.flash) := u.cell 3
  have p4 : w2.cell? ⟨w.heap.size, 4, none⟩ = some (.int .i64 L.ram) := u.cell 4
  have p5 : w2.cell? ⟨w.heap.size, 5, none⟩ = some (.slice a5 ts.length c5) := u.cell 5
  have q0 : w2.cell? ⟨w.heap.size + 1, 0, none⟩ = some (.slice a0' xs.length c0') := v.cell 0
  have q1 : w2.cell? ⟨w.heap.size + 1, 1, none⟩ = some (.int .i64 L.stack) := v.cell 1
  have q2 : w2.cell? ⟨w.heap.size + 1, 2, none⟩ = some (.slice a2' L.slots.length c2') := v.cell 2
  have q3 : w2.cell? ⟨w.heap.size + 1, 3, none⟩ = some (.int .i64 L.flash) := v.cell 3
  have q4 : w2.cell? ⟨w.heap.size + 1, 4, none⟩ = some (.int .i64 L.ram) := v.cell 4
  have q5 : w2.cell? ⟨w.heap.size + 1, 5, none⟩ = some (.slice a5' ts.length c5') := v.cell 5
  go_wp2_with fail
  refine (H3.out _ hB2).mono ?_
  rintro e w3 ⟨rfl, hb⟩
  have HB := hide (hB2.trans (hb.mono hB2.size))
  clear hB2 u v hb p0 p1 p2 p3 p4 p5 q0 q1 q2 q3 q4 q5
  go_wp2
  go_ret
  exact ⟨rfl, HB.out⟩
end Go.Proofs.YtngdgogjlpjjpaeGreat

namespace Go.Proofs.YtngdgogjlpjjpaeGreat
open Go.RowKit
set_option linter.unusedVariables false
set_option linter.unusedSimpArgs false
set_option maxRecDepth 100000

theorem flat_setG : ∀ (xs : List Tg) (i : Nat) (x : Tg), i < xs.length → (((xs.flatMap clG).set (i * 3) (.int .i64 x.1)).set (i * 3 + 1) (.int .i64 x.2.1)).set (i * 3 + 2) (.int .i64 x.2.2) = (xs.set i x).flatMap clG
  | [], i, x, h => by simp at h
  | y :: ys, 0, x, h => by simp [clG]
  | y :: ys, i + 1, x, h => by
    have ih := flat_setG ys i x (by simpa using h)
    rw [show (i + 1) * 3 = i * 3 + 1 + 1 + 1 by omega]
    simp only [List.flatMap_cons, clG, List.cons_append, List.nil_append, List.set_cons_succ]
    rw [← ih]
theorem ogG_set {w : World} {base g n c : Nat} {xs : List Tg} (h : OG 71 3 clG w base (.slice (some ⟨g, 0, none⟩) n c) xs) (i : Nat) (hi : i < n) (o p q : Int) : OG 71 3 clG (((w.setCell ⟨g, i * 3, none⟩ (.int .i64 o)).setCell ⟨g, i * 3 + 1, none⟩ (.int .i64 p)).setCell ⟨g, i * 3 + 2, none⟩ (.int .i64 q)) base (.slice (some ⟨g, 0, none⟩) n c) (xs.set i (o, p, q)) := by
  obtain ⟨hl, ⟨h0, _⟩ | ⟨g', cap', cur, hv, hg, hh, h1, h2, h3, h4⟩⟩ := h
  · simp at h0
  · simp at hv
    obtain ⟨rfl, rfl, rfl⟩ := hv
    refine ⟨?_, .inr ⟨g, c, ((cur.setIfInBounds (i * 3) (.int .i64 o)).setIfInBounds (i * 3 + 1) (.int .i64 p)).setIfInBounds (i * 3 + 2) (.int .i64 q), by simp, hg, Blk.set (Blk.set (Blk.set (w := w) hh _ _) _ _) _ _, by simpa using h1, h2, by simpa using h3, ?_⟩⟩
    · rw [← flat_setG xs i (o, p, q) hi]
      simpa using hl
    · rw [List.length_set, Array.toList_setIfInBounds, Array.toList_setIfInBounds, Array.toList_setIfInBounds, List.take_set, List.take_set, List.take_set, h4]
      exact flat_setG xs i (o, p, q) hi
def mkG (k i : Nat) : Tg := (((k + 3 * i : Nat) : Int), ((k + 3 * i + 1 : Nat) : Int), ((k + 3 * i + 2 : Nat) : Int))
def marksG (k n : Nat) : List Tg := (List.range n).map (mkG k)
def mixedG (zs : List Tg) (k m : Nat) : List Tg := (List.range zs.length).map fun i => if i < m then mkG k i else zs.getD i zT
theorem marksG_len (k n : Nat) : (marksG k n).length = n := by simp [marksG]
theorem mixedG_len (zs : List Tg) (k m : Nat) : (mixedG zs k m).length = zs.length := by simp [mixedG]
theorem mixedG_zero (zs : List Tg) (k : Nat) : mixedG zs k 0 = zs := by
  apply List.ext_getElem
  · simp [mixedG]
  · intro i h1 h2; simp [mixedG, h2]
theorem mixedG_all (zs : List Tg) (k : Nat) : mixedG zs k zs.length = marksG k zs.length := by
  apply List.ext_getElem
  · simp [mixedG, marksG]
  · intro i h1 h2
    simp [marksG] at h2
    simp [mixedG, marksG, h2]
theorem mixedG_set (zs : List Tg) (k m : Nat) (h : m < zs.length) : (mixedG zs k m).set m (mkG k m) = mixedG zs k (m + 1) := by
  apply List.ext_getElem
  · simp [mixedG]
  · intro i h1 h2
    simp only [mixedG, List.getElem_set, List.getElem_map, List.getElem_range]
    by_cases hik : m = i
    · subst hik; simp
    · by_cases h3 : i < m
      · simp [hik, h3, show i < m + 1 by omega]
      · simp [hik, h3, show ¬ i < m + 1 by omega]
set_option maxHeartbeats 2000000 in
theorem markTargetS_some (g n cap base : Nat) (zs : List Tg) (k : Nat) (w : World) (h : OG 71 3 clG w base (.slice (some ⟨g, 0, none⟩) n cap) zs) (hn : n ≤ 1048576) (hk : k ≤ 4194304) :
    Calls Tryz.prog 181 #[.slice (some ⟨g, 0, none⟩) n cap, .int .i64 k] w fun e w' => e = .returned (.int .i64 ((k + 3 * n : Nat) : Int)) ∧ OG 71 3 clG w' base (.slice (some ⟨g, 0, none⟩) n cap) (marksG k n) ∧ Turn (fun j => j = g) w w' := by
  have hl := (og_parts h).1
  go_enter Tryz.func181, Tryz.ntmps181
  go_wp2
  go_loopw [1, 5] (fun x i wr => ∃ m : Nat, m ≤ n ∧ i = .int .i64 m ∧ x = .int .i64 ((k + 3 * m : Nat) : Int) ∧ OG 71 3 clG wr base (.slice (some ⟨g, 0, none⟩) n cap) (mixedG zs k m) ∧ Turn (fun j => j = g) w wr) (fun _ i _ => n - (intOf i).toNat)
  case atStart => exact ⟨0, Nat.zero_le _, rfl, rfl, by rw [mixedG_zero]; exact h, Turn.refl _ _⟩
  case round =>
    obtain ⟨m, hm, rfl, rfl, O, T⟩ := hrel
    by_cases hlt : m < n
    · have hlt' : (m : Int) < (n : Int) := by omega
      obtain ⟨g', hg', c0, c1, c2⟩ := ogG_at O m hlt
      simp at hg'
      subst hg'
      obtain ⟨cur, hb⟩ := own_kind O rfl
      have f0 : wr.frozen? ⟨g, m * 3, none⟩ = false := hb.frozen (m * 3)
      have f1 : wr.frozen? ⟨g, m * 3 + 1, none⟩ = false := hb.frozen (m * 3 + 1)
      have f2 : wr.frozen? ⟨g, m * 3 + 2, none⟩ = false := hb.frozen (m * 3 + 2)
      have HX := hide (fun (o p q : Int) (ho : o = ((k + 3 * m : Nat) : Int)) (hp : p = ((k + 3 * m + 1 : Nat) : Int)) (hq : q = ((k + 3 * m + 2 : Nat) : Int)) => by
        have O2 := ogG_set O m hlt o p q
        rw [show (o, p, q) = mkG k m by rw [ho, hp, hq]; rfl, mixedG_set zs k m (by omega)] at O2
        have T2 := ((T.trans (turn_set wr g (m * 3) (.int .i64 o))).trans (turn_set _ g (m * 3 + 1) (.int .i64 p))).trans (turn_set _ g (m * 3 + 2) (.int .i64 q))
        exact And.intro O2 T2)
      clear O T hb
      go_wp2
      go_roundw
      case rel => exact ⟨m + 1, by omega, by go_num, by go_num, (HX.out _ _ _ (by go_num) (by go_num) (by go_num)).1, (HX.out _ _ _ (by go_num) (by go_num) (by go_num)).2⟩
      case measure => simp [intOf]; omega
    · have e : Hid (m = n) := by show m = n; omega
      have HX := hide (And.intro O T)
      clear O T
      go_wp2
      go_ret
      refine ⟨ret_int (by rw [e.out]), ?_, HX.out.2⟩
      have := HX.out.1
      rw [e.out, ← hl, mixedG_all] at this
      rw [hl] at this
      exact this
end Go.Proofs.YtngdgogjlpjjpaeGreat

namespace Go.Proofs.YtngdgogjlpjjpaeGreat
open Go.RowKit
set_option linter.unusedVariables false
set_option linter.unusedSimpArgs false
set_option maxRecDepth 100000

set_option maxHeartbeats 1000000 in
theorem markTargetS_zero (a : Option Addr) (cap k : Nat) (w : World) :
    Calls Tryz.prog 181 #[.slice a 0 cap, .int .i64 k] w fun e w' => e = .returned (.int .i64 k) ∧ w = w' := by
  go_enter Tryz.func181, Tryz.ntmps181
  go_wp2
  go_loop [1, 5] (fun x i => i = .int .i64 0 ∧ x = .int .i64 k) (fun _ _ => 0)
  case atStart => exact ⟨rfl, rfl⟩
  case round =>
    obtain ⟨rfl, rfl⟩ := hrel
    go_wp2
    go_ret
    exact ⟨rfl, rfl⟩
theorem markTargetS_any (a : Option Addr) (n cap base : Nat) (zs : List Tg) (k : Nat) (w : World) (h : OG 71 3 clG w base (.slice a n cap) zs) (hn : n ≤ 1048576) (hk : k ≤ 4194304) :
    Calls Tryz.prog 181 #[.slice a n cap, .int .i64 k] w fun e w' => e = .returned (.int .i64 ((k + 3 * n : Nat) : Int)) ∧ OG 71 3 clG w' base (.slice a n cap) (marksG k n) ∧ Turn (fun j => (Value.slice a n cap).ownBlock = some j) w w' := by
  by_cases h1 : n = 0
  · subst h1
    refine (markTargetS_zero a cap k w).mono fun e w' he => ?_
    obtain ⟨rfl, rfl⟩ := he
    have hz : zs = [] := List.eq_nil_of_length_eq_zero (og_parts h).1
    subst hz
    exact ⟨rfl, h, Turn.refl _ _⟩
  · obtain ⟨g, rfl⟩ := og_addr h h1
    refine (markTargetS_some g n cap base zs k w h hn hk).mono fun e w' he => ⟨he.1, he.2.1, he.2.2.mono ?_⟩
    intro j hj
    subst hj
    rfl
theorem marksG_at (k n m : Nat) (h : m < n) : (marksG k n).getD m zT = mkG k m := by simp [marksG, List.getD_eq_getElem?_getD, h]

end Go.Proofs.YtngdgogjlpjjpaeGreat

namespace Go.Proofs.YtngdgogjlpjjpaeGreat
open Go.RowKit
set_option linter.unusedVariables false
set_option linter.unusedSimpArgs false
set_option maxRecDepth 100000

/-- how many marks the first rows take -/
def sumT (f : Nat → TB) : Nat → Nat
  | 0 => 0
  | n + 1 => sumT f n + 3 * (f n).1.length
theorem sumT_le (f : Nat → TB) : ∀ n i, i < n → 3 * (f i).1.length + sumT f i ≤ sumT f n
  | 0, i, h => by omega
  | n + 1, i, h => by
    show _ ≤ sumT f n + 3 * (f n).1.length
    by_cases e : i = n
    · subst e; omega
    · have := sumT_le f n i (by omega); omega
def St (f : Nat → TB) (n j : Nat) : Prop := ∃ i, i < n ∧ (svT (f i)).ownBlock = some j
/-- rows of targets with any contents of the same length, whose heads lie elsewhere -/
structure Rt (w : World) (base : Nat) (a : Option Addr) (n : Nat) (f : Nat → TB) (X : Nat → List Tg) : Prop where
  head : n ≠ 0 → ∃ g cs, a = some ⟨g, 0, none⟩ ∧ ¬ St f n g ∧ Blk w g cs 189 ∧ ∀ i, i < n → cs[i]? = some (svT (f i))
  rows : ∀ i, i < n → OG 71 3 clG w base (svT (f i)) (X i)
  apart : ∀ i j, i < n → j < n → i ≠ j → ∀ k, (svT (f i)).ownBlock = some k → (svT (f j)).ownBlock ≠ some k
def mrkT (k : Nat) (f : Nat → TB) (i : Nat) : List Tg := marksG (k + sumT f i) (f i).1.length

set_option maxHeartbeats 2000000 in
theorem markTargetSS_any (a : Option Addr) (n cap k base : Nat) (f : Nat → TB) (X : Nat → List Tg) (w : World) (h : Rt w base a n f X) (hn : n ≤ 1048576) (hs : sumT f n ≤ 1048576) (hk : k ≤ 2097152) :
    Calls Tryz.prog 96 #[.slice a n cap, .int .i64 k] w fun e w' => e = .returned (.int .i64 ((k + sumT f n : Nat) : Int)) ∧ Rt w' base a n f (mrkT k f) ∧ Turn (St f n) w w' := by
  have HH := hide h
  clear h
  go_enter Tryz.func96, Tryz.ntmps96
  go_wp2
  go_loopw [1, 5] (fun x i wr => ∃ m : Nat, m ≤ n ∧ i = .int .i64 m ∧ x = .int .i64 ((k + sumT f m : Nat) : Int) ∧ Rt wr base a n f (fun i => if i < m then mrkT k f i else X i) ∧ Turn (St f n) w wr) (fun _ i _ => n - (intOf i).toNat)
  case atStart => exact ⟨0, Nat.zero_le _, rfl, rfl, HH.out, Turn.refl _ _⟩
  case round =>
    obtain ⟨m, hm, rfl, rfl, R, T⟩ := hrel
    by_cases hlt : m < n
    · have hlt' : (m : Int) < (n : Int) := by omega
      obtain ⟨g, cs, rfl, hng, hb, hc⟩ := R.head (by omega)
      have c0 := (hb.cell m).trans (hc m hlt)
      have hle := sumT_le f n m hlt
      have hr := R.rows m hlt
      simp only [Nat.lt_irrefl, if_false] at hr
      have HMK := hide (markTargetS_any (f m).2.1 (f m).1.length (f m).2.2 base (X m) (k + sumT f m) wr hr (by omega) (by omega))
      have HFIN := hide (fun (w1 : World) (O1 : OG 71 3 clG w1 base (svT (f m)) (marksG (k + sumT f m) (f m).1.length)) (T1 : Turn (fun j => (svT (f m)).ownBlock = some j) wr w1) => show Rt w1 base (some ⟨g, 0, none⟩) n f (fun i => if i < m + 1 then mrkT k f i else X i) ∧ Turn (St f n) w w1 from by
        refine ⟨⟨fun _ => ⟨g, cs, rfl, hng, turn_blk T1 hb (fun e => hng ⟨m, hlt, e⟩), hc⟩, fun i hi => ?_, R.apart⟩, T.trans (T1.mono (fun j hj => ⟨m, hlt, hj⟩))⟩
        by_cases e : i = m
        · subst e
          simp only [show i < i + 1 by omega, if_true]
          exact O1
        · have hi' := (R.rows i hi).kept T1 (fun q hq hq' => R.apart i m hi hlt e q hq hq')
          by_cases e2 : i < m
          · simp only [e2, if_true, show i < m + 1 by omega] at hi' ⊢
            exact hi'
          · simp only [e2, if_false, show ¬ i < m + 1 by omega] at hi' ⊢
            exact hi')
      have HSU := hide (show sumT f (m + 1) = sumT f m + 3 * (f m).1.length from rfl)
      clear R T hb hc hr
      generalize sumT f m = sm at *
      unfold svT at c0 HFIN
      generalize f m = fm at *
      obtain ⟨fl, fa, fc⟩ := fm
      dsimp only at *
      go_wp2_with fail
      refine HMK.out.mono ?_
      rintro e w1 ⟨rfl, O1, T1⟩
      have HX := hide (HFIN.out w1 O1 T1)
      clear O1 T1 HFIN HMK c0
      go_wp2
      go_roundw
      case rel => exact ⟨m + 1, by omega, by go_num, by rw [HSU.out]; go_num, HX.out.1, HX.out.2⟩
      case measure => simp [intOf]; omega
    · have e : Hid (m = n) := by show m = n; omega
      have HX := hide (And.intro R T)
      clear R T
      go_wp2
      go_ret
      refine ⟨ret_int (by rw [e.out]), ?_, HX.out.2⟩
      have R := HX.out.1
      refine ⟨R.head, fun i hi => ?_, R.apart⟩
      have := R.rows i hi
      rw [e.out] at this
      simp only [hi, if_true] at this
      exact this
end Go.Proofs.YtngdgogjlpjjpaeGreat

namespace Go.Proofs.YtngdgogjlpjjpaeGreat
open Go.RowKit
set_option linter.unusedVariables false
set_option linter.unusedSimpArgs false
set_option maxRecDepth 100000

end Go.Proofs.YtngdgogjlpjjpaeGreat
