import Derived.Test.YtngdgogjlpjjpacJ03
import Derived.Test.YtngdgogjlpjjpacJ00
namespace Go.Proofs.Ytngdgogjlpjjpac
open Go.RowKit
set_option linter.unusedVariables false
set_option linter.unusedSimpArgs false
set_option maxRecDepth 100000

/-- THE SHAPE OF THE BLOCKS IS KEPT. -/
def Shp (w w' : World) : Prop := ∀ g cs t, Blk w g cs t → ∃ cs' : Array Value, Blk w' g cs' t ∧ cs'.size = cs.size
theorem Shp.refl (w : World) : Shp w w := fun g cs t h => ⟨cs, h, rfl⟩
theorem Shp.trans {a b c : World} (h : Shp a b) (k : Shp b c) : Shp a c := fun g cs t hb => by
  obtain ⟨c1, h1, e1⟩ := h g cs t hb
  obtain ⟨c2, h2, e2⟩ := k g c1 t h1
  exact ⟨c2, h2, e2.trans e1⟩
theorem Shp.below {w w' : World} (h : Below w.heap.size w w') : Shp w w' := fun g cs t hb => ⟨cs, hb.below h, rfl⟩
theorem Shp.set (w : World) (k i : Nat) (v : Value) : Shp w (w.setCell ⟨k, i, none⟩ v) := fun g cs t hb => by
  by_cases e : g = k
  · subst e
    exact ⟨_, hb.set i v, by simp⟩
  · exact ⟨cs, hb.other _ _ e, rfl⟩
/-- WHAT A MARK DOES: it writes into the blocks S alone, and keeps the shape of all. -/
structure Mkd (S : Nat → Prop) (w w' : World) : Prop where
  turn : Turn S w w'
  shp : Shp w w'
theorem Mkd.refl (S : Nat → Prop) (w : World) : Mkd S w w := ⟨Turn.refl _ _, Shp.refl _⟩
theorem Mkd.trans {S : Nat → Prop} {a b c : World} (h : Mkd S a b) (k : Mkd S b c) : Mkd S a c := ⟨h.turn.trans k.turn, h.shp.trans k.shp⟩
theorem Mkd.below {S : Nat → Prop} {w w' : World} (h : Below w.heap.size w w') : Mkd S w w' := ⟨turn_below h, Shp.below h⟩
theorem Mkd.set {S : Nat → Prop} {w w' : World} (h : Mkd S w w') (k i : Nat) (v : Value) (hk : S k) : Mkd S w (w'.setCell ⟨k, i, none⟩ v) :=
  h.trans ⟨⟨rfl, rfl, rfl, by rw [size_setCell]; exact Nat.le_refl _, fun j _ hj => heap_setCell_other _ _ _ _ (fun e => hj (by rw [e]; exact hk))⟩, Shp.set _ _ _ _⟩
theorem Mkd.mono {S S' : Nat → Prop} {w w' : World} (h : Mkd S w w') (hs : ∀ k, S k → S' k) : Mkd S' w w' := ⟨h.turn.mono hs, h.shp⟩
/-- A ROW THAT MAY BE MARKED: n places of sz cells, in a block of S. -/
def Sl (S : Nat → Prop) (w : World) (a : Option Addr) (n sz : Nat) : Prop := n ≠ 0 → ∃ g o cs t, a = some ⟨g, o, none⟩ ∧ S g ∧ Blk w g cs t ∧ o + n * sz ≤ cs.size
theorem Sl.shp {S : Nat → Prop} {w w' : World} {a : Option Addr} {n sz : Nat} (h : Sl S w a n sz) (m : Shp w w') : Sl S w' a n sz := fun hn => by
  obtain ⟨g, o, cs, t, ha, hs, hb, hl⟩ := h hn
  obtain ⟨cs', hb', e⟩ := m g cs t hb
  exact ⟨g, o, cs', t, ha, hs, hb', by omega⟩
theorem Sl.ofBlk {S : Nat → Prop} {w : World} {g n c sz : Nat} {cs : Array Value} {t : TypeId} (hb : Blk w g cs t) (hS : S g) (hs : n * sz ≤ cs.size) : Sl S w (some ⟨g, 0, none⟩) n sz := fun _ => ⟨g, 0, cs, t, rfl, hS, hb, by omega⟩
theorem Sl.cell {S : Nat → Prop} {w : World} {g o n sz : Nat} (h : Sl S w (some ⟨g, o, none⟩) n sz) (hn : n ≠ 0) (i : Nat) (hi : i < n * sz) : (∃ u, w.cell? ⟨g, o + i, none⟩ = some u) ∧ w.frozen? ⟨g, o + i, none⟩ = false ∧ S g := by
  obtain ⟨g', o', cs, t, ha, hs, hb, hl⟩ := h hn
  simp at ha
  obtain ⟨rfl, rfl⟩ := ha
  exact ⟨⟨cs[o + i]'(by omega), by rw [hb.cell]; simp [show o + i < cs.size by omega]⟩, hb.frozen _, hs⟩
theorem Sl.addr {S : Nat → Prop} {w : World} {a : Option Addr} {n sz : Nat} (h : Sl S w a n sz) (hn : n ≠ 0) : ∃ g o, a = some ⟨g, o, none⟩ := by
  obtain ⟨g, o, _, _, ha, _⟩ := h hn
  exact ⟨g, o, ha⟩

set_option maxHeartbeats 1000000 in
theorem markIntS_sl (S : Nat → Prop) (a : Option Addr) (n cap k : Nat) (w : World) (h : Sl S w a n 1) (hn : n ≤ 1048576) (hk : k ≤ 6291456) :
    Calls Try.prog 97 #[.slice a n cap, .int .i64 k] w fun e w' => e = .returned (.int .i64 ((k + n : Nat) : Int)) ∧ Mkd S w w' := by
  go_enter Try.func97, Try.ntmps97
  go_wp2
  go_loopw [1, 5] (fun x i wr => ∃ m : Nat, m ≤ n ∧ i = .int .i64 m ∧ x = .int .i64 ((k + m : Nat) : Int) ∧ Mkd S w wr) (fun _ i _ => n - (intOf i).toNat)
  case atStart => exact ⟨0, Nat.zero_le _, rfl, rfl, Mkd.refl _ _⟩
  case round =>
    obtain ⟨m, hm, rfl, rfl, M⟩ := hrel
    by_cases hlt : m < n
    · have hlt' : (m : Int) < (n : Int) := by omega
      obtain ⟨g, o, rfl⟩ := h.addr (by omega)
      obtain ⟨⟨u, c0⟩, f0, hS⟩ := (h.shp M.shp).cell (by omega) m (by omega)
      have HM := hide (fun v => M.set g (o + m) v hS)
      clear M
      go_wp2
      go_roundw
      case rel => exact ⟨m + 1, by omega, by go_num, by go_num, HM.out _⟩
      case measure => simp [intOf]; omega
    · obtain rfl : m = n := by omega
      go_wp2
      go_ret
      exact ⟨by go_num, M⟩

set_option maxHeartbeats 1000000 in
theorem markByteS_sl (S : Nat → Prop) (a : Option Addr) (n cap k : Nat) (w : World) (h : Sl S w a n 1) (hn : n ≤ 1048576) (hk : k ≤ 6291456) :
    Calls Try.prog 35 #[.slice a n cap, .int .i64 k] w fun e w' => e = .returned (.int .i64 ((k + n : Nat) : Int)) ∧ Mkd S w w' := by
  go_enter Try.func35, Try.ntmps35
  go_wp2
  go_loopw [1, 5] (fun x i wr => ∃ m : Nat, m ≤ n ∧ i = .int .i64 m ∧ x = .int .i64 ((k + m : Nat) : Int) ∧ Mkd S w wr) (fun _ i _ => n - (intOf i).toNat)
  case atStart => exact ⟨0, Nat.zero_le _, rfl, rfl, Mkd.refl _ _⟩
  case round =>
    obtain ⟨m, hm, rfl, rfl, M⟩ := hrel
    by_cases hlt : m < n
    · have hlt' : (m : Int) < (n : Int) := by omega
      obtain ⟨g, o, rfl⟩ := h.addr (by omega)
      obtain ⟨⟨u, c0⟩, f0, hS⟩ := (h.shp M.shp).cell (by omega) m (by omega)
      have HM := hide (fun v => M.set g (o + m) v hS)
      clear M
      go_wp2
      go_roundw
      case rel => exact ⟨m + 1, by omega, by go_num, by go_num, HM.out _⟩
      case measure => simp [intOf]; omega
    · obtain rfl : m = n := by omega
      go_wp2
      go_ret
      exact ⟨by go_num, M⟩

set_option maxHeartbeats 1000000 in
theorem markStringS_sl (S : Nat → Prop) (a : Option Addr) (n cap k : Nat) (w : World) (h : Sl S w a n 1) (hn : n ≤ 1048576) (hk : k ≤ 6291456) :
    Calls Try.prog 99 #[.slice a n cap, .int .i64 k] w fun e w' => e = .returned (.int .i64 ((k + n : Nat) : Int)) ∧ Mkd S w w' := by
  go_enter Try.func99, Try.ntmps99
  go_wp2
  go_loopw [1, 5] (fun x i wr => ∃ m : Nat, m ≤ n ∧ i = .int .i64 m ∧ x = .int .i64 ((k + m : Nat) : Int) ∧ Mkd S w wr) (fun _ i _ => n - (intOf i).toNat)
  case atStart => exact ⟨0, Nat.zero_le _, rfl, rfl, Mkd.refl _ _⟩
  case round =>
    obtain ⟨m, hm, rfl, rfl, M⟩ := hrel
    by_cases hlt : m < n
    · have hlt' : (m : Int) < (n : Int) := by omega
      obtain ⟨g, o, rfl⟩ := h.addr (by omega)
      have HT := hide (markText_any (k + m) wr (by omega))
      go_wp2_with fail
      refine HT.out.mono ?_
      rintro e w1 ⟨s, rfl, hs, hb⟩
      have M1 : Mkd S w w1 := M.trans (Mkd.below hb)
      obtain ⟨⟨u, c0⟩, f0, hS⟩ := (h.shp M1.shp).cell (by omega) m (by omega)
      have HM := hide (fun v => M1.set g (o + m) v hS)
      clear M M1 hb HT
      go_wp2
      go_roundw
      case rel => exact ⟨m + 1, by omega, by go_num, by go_num, HM.out _⟩
      case measure => simp [intOf]; omega
    · obtain rfl : m = n := by omega
      go_wp2
      go_ret
      exact ⟨by go_num, M⟩

set_option maxHeartbeats 2000000 in
theorem markExportS_sl (S : Nat → Prop) (a : Option Addr) (n cap k : Nat) (w : World) (h : Sl S w a n 3) (hn : n ≤ 1048576) (hk : k ≤ 4194304) :
    Calls Try.prog 100 #[.slice a n cap, .int .i64 k] w fun e w' => e = .returned (.int .i64 ((k + 3 * n : Nat) : Int)) ∧ Mkd S w w' := by
  go_enter Try.func100, Try.ntmps100
  go_wp2
  go_loopw [1, 5] (fun x i wr => ∃ m : Nat, m ≤ n ∧ i = .int .i64 m ∧ x = .int .i64 ((k + 3 * m : Nat) : Int) ∧ Mkd S w wr) (fun _ i _ => n - (intOf i).toNat)
  case atStart => exact ⟨0, Nat.zero_le _, rfl, rfl, Mkd.refl _ _⟩
  case round =>
    obtain ⟨m, hm, rfl, rfl, M⟩ := hrel
    by_cases hlt : m < n
    · have hlt' : (m : Int) < (n : Int) := by omega
      obtain ⟨g, o, rfl⟩ := h.addr (by omega)
      have HT := hide (markText_any (k + 3 * m) wr (by omega))
      go_wp2_with fail
      refine HT.out.mono ?_
      rintro e w1 ⟨s, rfl, hs, hb⟩
      have M1 : Mkd S w w1 := M.trans (Mkd.below hb)
      obtain ⟨⟨u, c0⟩, f0, hS⟩ := (h.shp M1.shp).cell (by omega) (m * 3) (by omega)
      obtain ⟨⟨u1, c1⟩, f1, _⟩ := (h.shp M1.shp).cell (by omega) (m * 3 + 1) (by omega)
      obtain ⟨⟨u2, c2⟩, f2, _⟩ := (h.shp M1.shp).cell (by omega) (m * 3 + 2) (by omega)
      rw [← Nat.add_assoc] at c1 f1 c2 f2
      have HM := hide (fun v v1 v2 => ((M1.set g (o + m * 3) v hS).set g (o + m * 3 + 1) v1 hS).set g (o + m * 3 + 2) v2 hS)
      clear M M1 hb HT
      go_wp2
      go_roundw
      case rel => exact ⟨m + 1, by omega, by go_num, by go_num, HM.out _ _ _⟩
      case measure => simp [intOf]; omega
    · obtain rfl : m = n := by omega
      go_wp2
      go_ret
      exact ⟨by go_num, M⟩

/-- rows of rows: their heads are not marked, their rows are -/
structure SlB (S : Nat → Prop) (w : World) (a : Option Addr) (n : Nat) (f : Nat → Option Addr × Nat × Nat) : Prop where
  head : n ≠ 0 → ∃ g o cs t, a = some ⟨g, o, none⟩ ∧ ¬ S g ∧ Blk w g cs t ∧ ∀ i, i < n → cs[o + i]? = some (.slice (f i).1 (f i).2.1 (f i).2.2)
  rows : ∀ i, i < n → Sl S w (f i).1 (f i).2.1 1
theorem SlB.kept {S : Nat → Prop} {w w' : World} {a : Option Addr} {n : Nat} {f : Nat → Option Addr × Nat × Nat} (h : SlB S w a n f) (m : Mkd S w w') : SlB S w' a n f :=
  ⟨fun hn => by obtain ⟨g, o, cs, t, ha, hs, hb, hl⟩ := h.head hn; exact ⟨g, o, cs, t, ha, hs, turn_blk m.turn hb hs, hl⟩, fun i hi => (h.rows i hi).shp m.shp⟩
/-- how many they are together -/
def sumB (f : Nat → Option Addr × Nat × Nat) : Nat → Nat
  | 0 => 0
  | n + 1 => sumB f n + (f n).2.1
theorem sumB_le (f : Nat → Option Addr × Nat × Nat) : ∀ n i, i < n → (f i).2.1 + sumB f i ≤ sumB f n
  | 0, i, h => by omega
  | n + 1, i, h => by
    show _ ≤ sumB f n + (f n).2.1
    by_cases e : i = n
    · subst e; omega
    · have := sumB_le f n i (by omega); omega

set_option maxHeartbeats 1000000 in
theorem markIntSS_sl (S : Nat → Prop) (a : Option Addr) (n cap k : Nat) (f : Nat → Option Addr × Nat × Nat) (w : World) (h : SlB S w a n f) (hn : n ≤ 1048576) (hs : sumB f n ≤ 1048576) (hk : k ≤ 4194304) :
    Calls Try.prog 98 #[.slice a n cap, .int .i64 k] w fun e w' => e = .returned (.int .i64 ((k + sumB f n : Nat) : Int)) ∧ Mkd S w w' := by
  go_enter Try.func98, Try.ntmps98
  go_wp2
  go_loopw [1, 5] (fun x i wr => ∃ m : Nat, m ≤ n ∧ i = .int .i64 m ∧ x = .int .i64 ((k + sumB f m : Nat) : Int) ∧ Mkd S w wr) (fun _ i _ => n - (intOf i).toNat)
  case atStart => exact ⟨0, Nat.zero_le _, rfl, rfl, Mkd.refl _ _⟩
  case round =>
    obtain ⟨m, hm, rfl, rfl, M⟩ := hrel
    by_cases hlt : m < n
    · have hlt' : (m : Int) < (n : Int) := by omega
      have hM := h.kept M
      obtain ⟨g, o, cs, t, rfl, _, hb, hc⟩ := hM.head (by omega)
      have c0 := (hb.cell (o + m)).trans (hc m hlt)
      have hle := sumB_le f n m hlt
      have HSU := hide (show sumB f (m + 1) = sumB f m + (f m).2.1 from rfl)
      have HK := hide (fun k hk => markIntS_sl S (f m).1 (f m).2.1 (f m).2.2 k wr (hM.rows m hlt) (by omega) hk)
      generalize sumB f m = sm at *
      generalize f m = fm at *
      obtain ⟨fa, fn, fc⟩ := fm
      dsimp only at *
      clear hM hb hc
      go_wp2_with fail
      refine (HK.out (k + sm) (by omega)).mono ?_
      rintro e w1 ⟨rfl, M1⟩
      have HM := hide (M.trans M1)
      clear M M1 HK c0
      go_wp2
      go_roundw
      case rel => exact ⟨m + 1, by omega, by go_num, by rw [HSU.out]; go_num, HM.out⟩
      case measure => simp [intOf]; omega
    · obtain rfl : m = n := by omega
      go_wp2
      go_ret
      exact ⟨by go_num, M⟩
end Go.Proofs.Ytngdgogjlpjjpac

namespace Go.Proofs.Ytngdgogjlpjjpac
open Go.RowKit
set_option linter.unusedVariables false
set_option linter.unusedSimpArgs false
set_option maxRecDepth 100000

/-- a byte of a text -/
def byt (s : ByteArray) (k : Nat) : Int := ((s.get! k).toNat : Int)
theorem byt_range (s : ByteArray) (k : Nat) : 0 ≤ byt s k ∧ byt s k ≤ 255 := by
  unfold byt
  have := (s.get! k).toNat_lt
  omega
theorem get_bang (s : ByteArray) (k : Nat) (h : k < s.size) : s.get! k = s[k]'h := by
  simp only [ByteArray.get!, getElem!_def]
  have : s.data[k]? = some (s.data[k]'h) := Array.getElem?_eq_getElem h
  rw [this]
  rfl
theorem str_index (s : ByteArray) (k : Nat) (h : k < s.size) (w : World) : (Instr.index 9 (.string s) (.int .i64 (k : Int))).run Try.prog w = .ok (.int .u8 (byt s k)) w := by
  rw [run_index_string w 9 s .i64 (k : Int) Try.underlying9, dif_pos (by omega)]
  simp only [byt, Int.toNat_natCast, get_bang s k h]
/-- WHAT A NAME IS. -/
def nmo (s : ByteArray) : Bool := decide (1 ≤ s.size ∧ s.size ≤ 12) && (List.range s.size).all fun k => decide (97 ≤ byt s k ∧ byt s k ≤ 122)
theorem nmo_bad (s : ByteArray) (k : Nat) (hk : k < s.size) (h : ¬ (97 ≤ byt s k ∧ byt s k ≤ 122)) : nmo s = false := by
  unfold nmo
  rw [Bool.and_eq_false_iff]
  right
  rw [List.all_eq_false]
  exact ⟨k, by simpa using hk, by simpa using h⟩
theorem nmo_good (s : ByteArray) (h : ∀ j, j < s.size → 97 ≤ byt s j ∧ byt s j ≤ 122) : nmo s = decide (1 ≤ s.size ∧ s.size ≤ 12) := by
  unfold nmo
  rw [show ((List.range s.size).all fun k => decide (97 ≤ byt s k ∧ byt s k ≤ 122)) = true from List.all_eq_true.2 (fun k hk => by simpa using h k (by simpa using hk)), Bool.and_true]

set_option maxHeartbeats 1000000 in
theorem l4NameOk_any (s : ByteArray) (w : World) (hs : s.size ≤ 1048576) :
    Calls Try.prog 68 #[.string s] w fun e w' => e = .returned (.bool (nmo s)) ∧ w = w' := by
  obtain ⟨N, hN⟩ : ∃ N, N = s.size := ⟨_, rfl⟩
  go_enter Try.func68, Try.ntmps68
  go_wp2_with fail
  go_loop [3] (fun i => ∃ k : Nat, k ≤ s.size ∧ i = .int .i64 k ∧ Hid (∀ j, j < k → 97 ≤ byt s j ∧ byt s j ≤ 122)) (fun i => s.size - (intOf i).toNat)
  case atStart => exact ⟨0, Nat.zero_le _, rfl, hide (fun j hj => by omega)⟩
  case round =>
    obtain ⟨k, hk, rfl, HJ⟩ := hrel
    by_cases hlt : k < s.size
    · have hlt' : (k : Int) < (s.size : Int) := by omega
      have hix := str_index s k hlt
      obtain ⟨z0, z1⟩ := byt_range s k
      have HZ := hide (nmo_bad s k hlt)
      have HG := hide (show 97 ≤ byt s k ∧ byt s k ≤ 122 → ∀ j, j < k + 1 → 97 ≤ byt s j ∧ byt s j ≤ 122 from fun h j hj => by
        by_cases e : j = k
        · subst e; exact h
        · exact HJ.out j (by omega))
      generalize byt s k = z at *
      by_cases c1 : z < 97
      · have c1' : (z < 97) = True := by simp [c1]
        go_wp2
        go_ret
        exact ⟨ret_bool (HZ.out (by omega)).symm, rfl⟩
      · by_cases c2 : 122 < z
        · go_wp2
          go_ret
          exact ⟨ret_bool (HZ.out (by omega)).symm, rfl⟩
        · go_wp2
          go_round
          case rel => exact ⟨k + 1, by omega, by go_num, hide (HG.out (by omega))⟩
          case measure => simp [intOf]; omega
    · have e : Hid (k = s.size) := by show k = s.size; omega
      have HE := hide (nmo_good s (fun j hj => HJ.out j (by rw [e.out]; exact hj)))
      by_cases c1 : 1 ≤ s.size
      · by_cases c2 : s.size ≤ 12
        · go_wp2
          go_ret
          exact ⟨ret_bool (by have := e.out; rw [HE.out, Bool.eq_iff_iff]; simp; omega), rfl⟩
        · go_wp2
          go_ret
          exact ⟨ret_bool (by have := e.out; rw [HE.out, Bool.eq_iff_iff]; simp; omega), rfl⟩
      · go_wp2
        go_ret
        exact ⟨ret_bool (by have := e.out; rw [HE.out, Bool.eq_iff_iff]; simp; omega), rfl⟩

set_option maxHeartbeats 1000000 in
theorem isName_any (s : ByteArray) (w : World) (hs : s.size ≤ 1048576) :
    Calls Try.prog 76 #[.string s] w fun e w' => e = .returned (.bool (nmo s)) ∧ w = w' := by
  by_cases c1 : s.size < 1
  · have HF : Hid (nmo s = false) := by show _ = _; unfold nmo; rw [Bool.and_eq_false_iff]; left; simp; omega
    have c1' : (s.size : Int) < 1 := by omega
    go_enter Try.func76, Try.ntmps76
    go_wp2
    go_ret
    exact ⟨ret_bool HF.out.symm, rfl⟩
  · by_cases c2 : 12 < s.size
    · have HF : Hid (nmo s = false) := by show _ = _; unfold nmo; rw [Bool.and_eq_false_iff]; left; simp; omega
      have c1' : ¬ (s.size : Int) < 1 := by omega
      have c2' : (12 : Int) < (s.size : Int) := by omega
      go_enter Try.func76, Try.ntmps76
      go_wp2
      go_ret
      exact ⟨ret_bool HF.out.symm, rfl⟩
    · have c1' : ¬ (s.size : Int) < 1 := by omega
      have c2' : ¬ (12 : Int) < (s.size : Int) := by omega
      go_enter Try.func76, Try.ntmps76
      go_wp2_with fail
      go_loop [14] (fun i => ∃ k : Nat, k ≤ s.size ∧ i = .int .i64 k ∧ Hid (∀ j, j < k → 97 ≤ byt s j ∧ byt s j ≤ 122)) (fun i => s.size - (intOf i).toNat)
      case atStart => exact ⟨0, Nat.zero_le _, rfl, hide (fun j hj => by omega)⟩
      case round =>
        obtain ⟨k, hk, rfl, HJ⟩ := hrel
        by_cases hlt : k < s.size
        · have hlt' : (k : Int) < (s.size : Int) := by omega
          have hix := str_index s k hlt
          obtain ⟨z0, z1⟩ := byt_range s k
          have HZ := hide (nmo_bad s k hlt)
          have HG := hide (show 97 ≤ byt s k ∧ byt s k ≤ 122 → ∀ j, j < k + 1 → 97 ≤ byt s j ∧ byt s j ≤ 122 from fun h j hj => by
            by_cases e : j = k
            · subst e; exact h
            · exact HJ.out j (by omega))
          generalize byt s k = z at *
          by_cases d1 : z < 97
          · go_wp2
            go_ret
            exact ⟨ret_bool (HZ.out (by omega)).symm, rfl⟩
          · by_cases d2 : 122 < z
            · go_wp2
              go_ret
              exact ⟨ret_bool (HZ.out (by omega)).symm, rfl⟩
            · go_wp2
              go_round
              case rel => exact ⟨k + 1, by omega, by go_num, hide (HG.out (by omega))⟩
              case measure => simp [intOf]; omega
        · have e : Hid (k = s.size) := by show k = s.size; omega
          have HE := hide (nmo_good s (fun j hj => HJ.out j (by rw [e.out]; exact hj)))
          go_wp2
          go_ret
          exact ⟨ret_bool (by have := e.out; rw [HE.out, Bool.eq_iff_iff]; simp; omega), rfl⟩
end Go.Proofs.Ytngdgogjlpjjpac
