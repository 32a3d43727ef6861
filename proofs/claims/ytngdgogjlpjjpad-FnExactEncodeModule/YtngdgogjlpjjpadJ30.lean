import Derived.Test.YtngdgogjlpjjpadJ29
import Derived.Test.YtngdgogjlpjjpadJ26
namespace Go.Proofs.Ytngdgogjlpjjpad
open Go.RowKit
set_option linter.unusedVariables false
set_option linter.unusedSimpArgs false
set_option maxRecDepth 100000

/-- THE SHAPE OF THE BLOCKS IS KEPT. -/
def Shp (w w' : World) : Prop := ∀ g cs t, Blk w g cs t → ∃ cs' : Array Value, Blk w' g cs' t ∧ cs'.size = cs.size
theorem Shp.refl (w : World) : Shp w w := fun g cs t h => ⟨cs, h, rfl⟩
theorem Shp.trans {a b c : World} (h : Shp a b) (k : Shp b c) : Shp a c := fun g cs t hb => by
  obtain ⟨c1, h1, e1⟩ := h g cs t hb
  obtain ⟨c2, h2, e2⟩ := k g c1 t h1
  exact ⟨c2, h2, e2.trans e1⟩
theorem Shp.below {w w' : World} (h : Below w.heap.size w w') : Shp w w' := fun g cs t hb => ⟨cs, hb.below h, rfl⟩
theorem Shp.set (w : World) (k i : Nat) (v : Value) : Shp w (w.setCell ⟨k, i, none⟩ v) := fun g cs t hb => by
  by_cases e : g = k
  · subst e
    exact ⟨_, hb.set i v, by simp⟩
  · exact ⟨cs, hb.other _ _ e, rfl⟩
/-- WHAT A MARK DOES: it writes into the blocks S alone, and keeps the shape of all. -/
structure Mkd (S : Nat → Prop) (w w' : World) : Prop where
  turn : Turn S w w'
  shp : Shp w w'
theorem Mkd.refl (S : Nat → Prop) (w : World) : Mkd S w w := ⟨Turn.refl _ _, Shp.refl _⟩
theorem Mkd.trans {S : Nat → Prop} {a b c : World} (h : Mkd S a b) (k : Mkd S b c) : Mkd S a c := ⟨h.turn.trans k.turn, h.shp.trans k.shp⟩
theorem Mkd.below {S : Nat → Prop} {w w' : World} (h : Below w.heap.size w w') : Mkd S w w' := ⟨turn_below h, Shp.below h⟩
theorem Mkd.set {S : Nat → Prop} {w w' : World} (h : Mkd S w w') (k i : Nat) (v : Value) (hk : S k) : Mkd S w (w'.setCell ⟨k, i, none⟩ v) :=
  h.trans ⟨⟨rfl, rfl, rfl, by rw [size_setCell]; exact Nat.le_refl _, fun j _ hj => heap_setCell_other _ _ _ _ (fun e => hj (by rw [e]; exact hk))⟩, Shp.set _ _ _ _⟩
theorem Mkd.mono {S S' : Nat → Prop} {w w' : World} (h : Mkd S w w') (hs : ∀ k, S k → S' k) : Mkd S' w w' := ⟨h.turn.mono hs, h.shp⟩
/-- A ROW THAT MAY BE MARKED: n places of sz cells, in a block of S. -/
def Sl (S : Nat → Prop) (w : World) (a : Option Addr) (n sz : Nat) : Prop := n ≠ 0 → ∃ g o cs t, a = some ⟨g, o, none⟩ ∧ S g ∧ Blk w g cs t ∧ o + n * sz ≤ cs.size
theorem Sl.shp {S : Nat → Prop} {w w' : World} {a : Option Addr} {n sz : Nat} (h : Sl S w a n sz) (m : Shp w w') : Sl S w' a n sz := fun hn => by
  obtain ⟨g, o, cs, t, ha, hs, hb, hl⟩ := h hn
  obtain ⟨cs', hb', e⟩ := m g cs t hb
  exact ⟨g, o, cs', t, ha, hs, hb', by omega⟩
theorem Sl.ofBlk {S : Nat → Prop} {w : World} {g n c sz : Nat} {cs : Array Value} {t : TypeId} (hb : Blk w g cs t) (hS : S g) (hs : n * sz ≤ cs.size) : Sl S w (some ⟨g, 0, none⟩) n sz := fun _ => ⟨g, 0, cs, t, rfl, hS, hb, by omega⟩
theorem Sl.cell {S : Nat → Prop} {w : World} {g o n sz : Nat} (h : Sl S w (some ⟨g, o, none⟩) n sz) (hn : n ≠ 0) (i : Nat) (hi : i < n * sz) : (∃ u, w.cell? ⟨g, o + i, none⟩ = some u) ∧ w.frozen? ⟨g, o + i, none⟩ = false ∧ S g := by
  obtain ⟨g', o', cs, t, ha, hs, hb, hl⟩ := h hn
  simp at ha
  obtain ⟨rfl, rfl⟩ := ha
  exact ⟨⟨cs[o + i]'(by omega), by rw [hb.cell]; simp [show o + i < cs.size by omega]⟩, hb.frozen _, hs⟩
theorem Sl.addr {S : Nat → Prop} {w : World} {a : Option Addr} {n sz : Nat} (h : Sl S w a n sz) (hn : n ≠ 0) : ∃ g o, a = some ⟨g, o, none⟩ := by
  obtain ⟨g, o, _, _, ha, _⟩ := h hn
  exact ⟨g, o, ha⟩

set_option maxHeartbeats 1000000 in
theorem markIntS_sl (S : Nat → Prop) (a : Option Addr) (n cap k : Nat) (w : World) (h : Sl S w a n 1) (hn : n ≤ 1048576) (hk : k ≤ 6291456) :
    Calls Try.prog 55 #[.slice a n cap, .int .i64 k] w fun e w' => e = .returned (.int .i64 ((k + n : Nat) : Int)) ∧ Mkd S w w' := by
  go_enter Try.func55, Try.ntmps55
  go_wp2
  go_loopw [1, 5] (fun x i wr => ∃ m : Nat, m ≤ n ∧ i = .int .i64 m ∧ x = .int .i64 ((k + m : Nat) : Int) ∧ Mkd S w wr) (fun _ i _ => n - (intOf i).toNat)
  case atStart => exact ⟨0, Nat.zero_le _, rfl, rfl, Mkd.refl _ _⟩
  case round =>
    obtain ⟨m, hm, rfl, rfl, M⟩ := hrel
    by_cases hlt : m < n
    · have hlt' : (m : Int) < (n : Int) := by omega
      obtain ⟨g, o, rfl⟩ := h.addr (by omega)
      obtain ⟨⟨u, c0⟩, f0, hS⟩ := (h.shp M.shp).cell (by omega) m (by omega)
      have HM := hide (fun v => M.set g (o + m) v hS)
      clear M
      go_wp2
      go_roundw
      case rel => exact ⟨m + 1, by omega, by go_num, by go_num, HM.out _⟩
      case measure => simp [intOf]; omega
    · obtain rfl : m = n := by omega
      go_wp2
      go_ret
      exact ⟨by go_num, M⟩

set_option maxHeartbeats 1000000 in
theorem markByteS_sl (S : Nat → Prop) (a : Option Addr) (n cap k : Nat) (w : World) (h : Sl S w a n 1) (hn : n ≤ 1048576) (hk : k ≤ 6291456) :
    Calls Try.prog 16 #[.slice a n cap, .int .i64 k] w fun e w' => e = .returned (.int .i64 ((k + n : Nat) : Int)) ∧ Mkd S w w' := by
  go_enter Try.func16, Try.ntmps16
  go_wp2
  go_loopw [1, 5] (fun x i wr => ∃ m : Nat, m ≤ n ∧ i = .int .i64 m ∧ x = .int .i64 ((k + m : Nat) : Int) ∧ Mkd S w wr) (fun _ i _ => n - (intOf i).toNat)
  case atStart => exact ⟨0, Nat.zero_le _, rfl, rfl, Mkd.refl _ _⟩
  case round =>
    obtain ⟨m, hm, rfl, rfl, M⟩ := hrel
    by_cases hlt : m < n
    · have hlt' : (m : Int) < (n : Int) := by omega
      obtain ⟨g, o, rfl⟩ := h.addr (by omega)
      obtain ⟨⟨u, c0⟩, f0, hS⟩ := (h.shp M.shp).cell (by omega) m (by omega)
      have HM := hide (fun v => M.set g (o + m) v hS)
      clear M
      go_wp2
      go_roundw
      case rel => exact ⟨m + 1, by omega, by go_num, by go_num, HM.out _⟩
      case measure => simp [intOf]; omega
    · obtain rfl : m = n := by omega
      go_wp2
      go_ret
      exact ⟨by go_num, M⟩

set_option maxHeartbeats 1000000 in
theorem markStringS_sl (S : Nat → Prop) (a : Option Addr) (n cap k : Nat) (w : World) (h : Sl S w a n 1) (hn : n ≤ 1048576) (hk : k ≤ 6291456) :
    Calls Try.prog 57 #[.slice a n cap, .int .i64 k] w fun e w' => e = .returned (.int .i64 ((k + n : Nat) : Int)) ∧ Mkd S w w' := by
  go_enter Try.func57, Try.ntmps57
  go_wp2
  go_loopw [1, 5] (fun x i wr => ∃ m : Nat, m ≤ n ∧ i = .int .i64 m ∧ x = .int .i64 ((k + m : Nat) : Int) ∧ Mkd S w wr) (fun _ i _ => n - (intOf i).toNat)
  case atStart => exact ⟨0, Nat.zero_le _, rfl, rfl, Mkd.refl _ _⟩
  case round =>
    obtain ⟨m, hm, rfl, rfl, M⟩ := hrel
    by_cases hlt : m < n
    · have hlt' : (m : Int) < (n : Int) := by omega
      obtain ⟨g, o, rfl⟩ := h.addr (by omega)
      have HT := hide (markText_any (k + m) wr (by omega))
      go_wp2_with fail
      refine HT.out.mono ?_
      rintro e w1 ⟨s, rfl, hs, hb⟩
      have M1 : Mkd S w w1 := M.trans (Mkd.below hb)
      obtain ⟨⟨u, c0⟩, f0, hS⟩ := (h.shp M1.shp).cell (by omega) m (by omega)
      have HM := hide (fun v => M1.set g (o + m) v hS)
      clear M M1 hb HT
      go_wp2
      go_roundw
      case rel => exact ⟨m + 1, by omega, by go_num, by go_num, HM.out _⟩
      case measure => simp [intOf]; omega
    · obtain rfl : m = n := by omega
      go_wp2
      go_ret
      exact ⟨by go_num, M⟩

set_option maxHeartbeats 2000000 in
theorem markExportS_sl (S : Nat → Prop) (a : Option Addr) (n cap k : Nat) (w : World) (h : Sl S w a n 3) (hn : n ≤ 1048576) (hk : k ≤ 4194304) :
    Calls Try.prog 58 #[.slice a n cap, .int .i64 k] w fun e w' => e = .returned (.int .i64 ((k + 3 * n : Nat) : Int)) ∧ Mkd S w w' := by
  go_enter Try.func58, Try.ntmps58
  go_wp2
  go_loopw [1, 5] (fun x i wr => ∃ m : Nat, m ≤ n ∧ i = .int .i64 m ∧ x = .int .i64 ((k + 3 * m : Nat) : Int) ∧ Mkd S w wr) (fun _ i _ => n - (intOf i).toNat)
  case atStart => exact ⟨0, Nat.zero_le _, rfl, rfl, Mkd.refl _ _⟩
  case round =>
    obtain ⟨m, hm, rfl, rfl, M⟩ := hrel
    by_cases hlt : m < n
    · have hlt' : (m : Int) < (n : Int) := by omega
      obtain ⟨g, o, rfl⟩ := h.addr (by omega)
      have HT := hide (markText_any (k + 3 * m) wr (by omega))
      go_wp2_with fail
      refine HT.out.mono ?_
      rintro e w1 ⟨s, rfl, hs, hb⟩
      have M1 : Mkd S w w1 := M.trans (Mkd.below hb)
      obtain ⟨⟨u, c0⟩, f0, hS⟩ := (h.shp M1.shp).cell (by omega) (m * 3) (by omega)
      obtain ⟨⟨u1, c1⟩, f1, _⟩ := (h.shp M1.shp).cell (by omega) (m * 3 + 1) (by omega)
      obtain ⟨⟨u2, c2⟩, f2, _⟩ := (h.shp M1.shp).cell (by omega) (m * 3 + 2) (by omega)
      rw [← Nat.add_assoc] at c1 f1 c2 f2
      have HM := hide (fun v v1 v2 => ((M1.set g (o + m * 3) v hS).set g (o + m * 3 + 1) v1 hS).set g (o + m * 3 + 2) v2 hS)
      clear M M1 hb HT
      go_wp2
      go_roundw
      case rel => exact ⟨m + 1, by omega, by go_num, by go_num, HM.out _ _ _⟩
      case measure => simp [intOf]; omega
    · obtain rfl : m = n := by omega
      go_wp2
      go_ret
      exact ⟨by go_num, M⟩

/-- rows of rows: their heads are not marked, their rows are -/
structure SlB (S : Nat → Prop) (w : World) (a : Option Addr) (n : Nat) (f : Nat → Option Addr × Nat × Nat) : Prop where
  head : n ≠ 0 → ∃ g o cs t, a = some ⟨g, o, none⟩ ∧ ¬ S g ∧ Blk w g cs t ∧ ∀ i, i < n → cs[o + i]? = some (.slice (f i).1 (f i).2.1 (f i).2.2)
  rows : ∀ i, i < n → Sl S w (f i).1 (f i).2.1 1
theorem SlB.kept {S : Nat → Prop} {w w' : World} {a : Option Addr} {n : Nat} {f : Nat → Option Addr × Nat × Nat} (h : SlB S w a n f) (m : Mkd S w w') : SlB S w' a n f :=
  ⟨fun hn => by obtain ⟨g, o, cs, t, ha, hs, hb, hl⟩ := h.head hn; exact ⟨g, o, cs, t, ha, hs, turn_blk m.turn hb hs, hl⟩, fun i hi => (h.rows i hi).shp m.shp⟩
/-- how many they are together -/
def sumB (f : Nat → Option Addr × Nat × Nat) : Nat → Nat
  | 0 => 0
  | n + 1 => sumB f n + (f n).2.1
theorem sumB_le (f : Nat → Option Addr × Nat × Nat) : ∀ n i, i < n → (f i).2.1 + sumB f i ≤ sumB f n
  | 0, i, h => by omega
  | n + 1, i, h => by
    show _ ≤ sumB f n + (f n).2.1
    by_cases e : i = n
    · subst e; omega
    · have := sumB_le f n i (by omega); omega

set_option maxHeartbeats 1000000 in
theorem markIntSS_sl (S : Nat → Prop) (a : Option Addr) (n cap k : Nat) (f : Nat → Option Addr × Nat × Nat) (w : World) (h : SlB S w a n f) (hn : n ≤ 1048576) (hs : sumB f n ≤ 1048576) (hk : k ≤ 4194304) :
    Calls Try.prog 56 #[.slice a n cap, .int .i64 k] w fun e w' => e = .returned (.int .i64 ((k + sumB f n : Nat) : Int)) ∧ Mkd S w w' := by
  go_enter Try.func56, Try.ntmps56
  go_wp2
  go_loopw [1, 5] (fun x i wr => ∃ m : Nat, m ≤ n ∧ i = .int .i64 m ∧ x = .int .i64 ((k + sumB f m : Nat) : Int) ∧ Mkd S w wr) (fun _ i _ => n - (intOf i).toNat)
  case atStart => exact ⟨0, Nat.zero_le _, rfl, rfl, Mkd.refl _ _⟩
  case round =>
    obtain ⟨m, hm, rfl, rfl, M⟩ := hrel
    by_cases hlt : m < n
    · have hlt' : (m : Int) < (n : Int) := by omega
      have hM := h.kept M
      obtain ⟨g, o, cs, t, rfl, _, hb, hc⟩ := hM.head (by omega)
      have c0 := (hb.cell (o + m)).trans (hc m hlt)
      have hle := sumB_le f n m hlt
      have HSU := hide (show sumB f (m + 1) = sumB f m + (f m).2.1 from rfl)
      have HK := hide (fun k hk => markIntS_sl S (f m).1 (f m).2.1 (f m).2.2 k wr (hM.rows m hlt) (by omega) hk)
      generalize sumB f m = sm at *
      generalize f m = fm at *
      obtain ⟨fa, fn, fc⟩ := fm
      dsimp only at *
      clear hM hb hc
      go_wp2_with fail
      refine (HK.out (k + sm) (by omega)).mono ?_
      rintro e w1 ⟨rfl, M1⟩
      have HM := hide (M.trans M1)
      clear M M1 HK c0
      go_wp2
      go_roundw
      case rel => exact ⟨m + 1, by omega, by go_num, by rw [HSU.out]; go_num, HM.out⟩
      case measure => simp [intOf]; omega
    · obtain rfl : m = n := by omega
      go_wp2
      go_ret
      exact ⟨by go_num, M⟩
end Go.Proofs.Ytngdgogjlpjjpad

namespace Go.Proofs.Ytngdgogjlpjjpad
open Go.RowKit
set_option linter.unusedVariables false
set_option linter.unusedSimpArgs false
set_option maxRecDepth 100000

set_option maxHeartbeats 2000000 in
theorem markModule_sl (S : Nat → Prop) (nm : ByteArray) (ta : Option Addr) (tn tc : Nat) (ba : Option Addr) (bn bc : Nat) (f : Nat → Option Addr × Nat × Nat) (da : Option Addr) (dn dc : Nat) (bss : Int) (ra : Option Addr) (rn rc : Nat) (ia : Option Addr) (im ic : Nat) (ea : Option Addr) (en ec : Nat) (k : Nat) (w : World)
    (hS : ∀ j, S j → j < w.heap.size) (h1 : Sl S w ta tn 1) (h2 : SlB S w ba bn f) (h3 : Sl S w da dn 1) (h5 : Sl S w ra rn 1) (h6 : Sl S w ia im 1) (h7 : Sl S w ea en 3) (hn : tn + bn + sumB f bn + dn + rn + im + en ≤ 1048576) (hk : k ≤ 1048576) :
    Calls Try.prog 15 #[.agg #[.string nm, .slice ta tn tc, .slice ba bn bc, .slice da dn dc, .int .i64 bss, .slice ra rn rc, .slice ia im ic, .slice ea en ec], .int .i64 k] w fun e w' => e = .returned (.int .i64 ((k + tn + sumB f bn + dn + rn + im + 3 * en : Nat) : Int)) ∧ Mkd S w w' := by
  have k0 := Blk.new w #[.string nm, .slice ta tn tc, .slice ba bn bc, .slice da dn dc, .int .i64 bss, .slice ra rn rc, .slice ia im ic, .slice ea en ec] 29
  have M0 : Mkd S w (w.alloc (.cells #[.string nm, .slice ta tn tc, .slice ba bn bc, .slice da dn dc, .int .i64 bss, .slice ra rn rc, .slice ia im ic, .slice ea en ec] 29)) := Mkd.below ((Below.refl _ _).alloc (Nat.le_refl _) _)
  have hnS : ¬ S w.heap.size := fun e => by have := hS _ e; omega
  clear hS
  generalize hsm : sumB f bn = sm at *
  have HSM := hide hsm
  clear hsm
  obtain ⟨q0, q1, q2, q3, q4, q5, q6, q7⟩ := Blk.mod k0
  go_enter Try.func15, Try.ntmps15
  go_wp2_with fail
  refine (markIntS_sl S ta tn tc k _ (h1.shp M0.shp) (by omega) (by omega)).mono ?_
  rintro e w1 ⟨rfl, M1'⟩
  have M1 := M0.trans M1'
  have k1 := turn_blk M1'.turn k0 hnS
  clear M0 M1' k0 q0 q1 q2 q3 q4 q5 q6 q7
  obtain ⟨q0, q1, q2, q3, q4, q5, q6, q7⟩ := Blk.mod k1
  go_wp2_with fail
  refine (markIntSS_sl S ba bn bc (k + tn) f _ (h2.kept M1) (by omega) (by rw [HSM.out]; omega) (by omega)).mono ?_
  rw [HSM.out]
  rintro e w2 ⟨rfl, M2'⟩
  have M2 := M1.trans M2'
  have k2 := turn_blk M2'.turn k1 hnS
  clear M1 M2' k1 q0 q1 q2 q3 q4 q5 q6 q7
  obtain ⟨q0, q1, q2, q3, q4, q5, q6, q7⟩ := Blk.mod k2
  go_wp2_with fail
  refine (markByteS_sl S da dn dc (k + tn + sm) _ (h3.shp M2.shp) (by omega) (by omega)).mono ?_
  rintro e w3 ⟨rfl, M3'⟩
  have M3 := M2.trans M3'
  have k3 := turn_blk M3'.turn k2 hnS
  clear M2 M3' k2 q0 q1 q2 q3 q4 q5 q6 q7
  obtain ⟨q0, q1, q2, q3, q4, q5, q6, q7⟩ := Blk.mod k3
  go_wp2_with fail
  refine (markIntS_sl S ra rn rc (k + tn + sm + dn) _ (h5.shp M3.shp) (by omega) (by omega)).mono ?_
  rintro e w4 ⟨rfl, M4'⟩
  have M4 := M3.trans M4'
  have k4 := turn_blk M4'.turn k3 hnS
  clear M3 M4' k3 q0 q1 q2 q3 q4 q5 q6 q7
  obtain ⟨q0, q1, q2, q3, q4, q5, q6, q7⟩ := Blk.mod k4
  go_wp2_with fail
  refine (markStringS_sl S ia im ic (k + tn + sm + dn + rn) _ (h6.shp M4.shp) (by omega) (by omega)).mono ?_
  rintro e w5 ⟨rfl, M5'⟩
  have M5 := M4.trans M5'
  have k5 := turn_blk M5'.turn k4 hnS
  clear M4 M5' k4 q0 q1 q2 q3 q4 q5 q6 q7
  obtain ⟨q0, q1, q2, q3, q4, q5, q6, q7⟩ := Blk.mod k5
  go_wp2_with fail
  refine (markExportS_sl S ea en ec (k + tn + sm + dn + rn + im) _ (h7.shp M5.shp) (by omega) (by omega)).mono ?_
  rintro e w6 ⟨rfl, M6'⟩
  have HM := hide (M5.trans M6')
  clear M5 M6' k5 q0 q1 q2 q3 q4 q5 q6 q7
  go_wp2
  go_ret
  exact ⟨by go_num, HM.out⟩
end Go.Proofs.Ytngdgogjlpjjpad
