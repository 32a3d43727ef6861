import Derived.Test.YtngdgogjlpjjpadGreatJ43
import Derived.Test.YtngdgogjlpjjpadGreatJ02
import Derived.Laws.IdiomStrings
namespace Go.Proofs.YtngdgogjlpjjpadGreat
open Go.RowKit
set_option linter.unusedVariables false
set_option linter.unusedSimpArgs false
set_option maxRecDepth 100000

set_option maxHeartbeats 1000000 in
theorem markTargetS_zero (a : Option Addr) (cap k : Nat) (w : World) :
    Calls Tryz.prog 194 #[.slice a 0 cap, .int .i64 k] w fun e w' => e = .returned (.int .i64 k) ∧ w = w' := by
  go_enter Tryz.func194, Tryz.ntmps194
  go_wp2
  go_loop [1, 5] (fun x i => i = .int .i64 0 ∧ x = .int .i64 k) (fun _ _ => 0)
  case atStart => exact ⟨rfl, rfl⟩
  case round =>
    obtain ⟨rfl, rfl⟩ := hrel
    go_wp2
    go_ret
    exact ⟨rfl, rfl⟩
theorem markTargetS_any (a : Option Addr) (n cap base : Nat) (zs : List Tg) (k : Nat) (w : World) (h : OG 72 3 clG w base (.slice a n cap) zs) (hn : n ≤ 1048576) (hk : k ≤ 4194304) :
    Calls Tryz.prog 194 #[.slice a n cap, .int .i64 k] w fun e w' => e = .returned (.int .i64 ((k + 3 * n : Nat) : Int)) ∧ OG 72 3 clG w' base (.slice a n cap) (marksG k n) ∧ Turn (fun j => (Value.slice a n cap).ownBlock = some j) w w' := by
  by_cases h1 : n = 0
  · subst h1
    refine (markTargetS_zero a cap k w).mono fun e w' he => ?_
    obtain ⟨rfl, rfl⟩ := he
    have hz : zs = [] := List.eq_nil_of_length_eq_zero (og_parts h).1
    subst hz
    exact ⟨rfl, h, Turn.refl _ _⟩
  · obtain ⟨g, rfl⟩ := og_addr h h1
    refine (markTargetS_some g n cap base zs k w h hn hk).mono fun e w' he => ⟨he.1, he.2.1, he.2.2.mono ?_⟩
    intro j hj
    subst hj
    rfl
theorem marksG_at (k n m : Nat) (h : m < n) : (marksG k n).getD m zT = mkG k m := by simp [marksG, List.getD_eq_getElem?_getD, h]

set_option maxHeartbeats 2000000 in
theorem heldTargetS_any (a : Option Addr) (n cap base : Nat) (k : Nat) (w : World) (h : OG 72 3 clG w base (.slice a n cap) (marksG k n)) (hn : n ≤ 1048576) (hk : k ≤ 4194304) :
    Calls Tryz.prog 195 #[.slice a n cap, .int .i64 k] w fun e w' => e = .returned (.int .i64 ((k + 3 * n : Nat) : Int)) ∧ w = w' := by
  have HO := hide h
  clear h
  go_enter Tryz.func195, Tryz.ntmps195
  go_wp2
  go_loop [1, 5] (fun x i => ∃ m : Nat, m ≤ n ∧ i = .int .i64 m ∧ x = .int .i64 ((k + 3 * m : Nat) : Int)) (fun _ i => n - (intOf i).toNat)
  case atStart => exact ⟨0, Nat.zero_le _, rfl, rfl⟩
  case round =>
    obtain ⟨m, hm, rfl, rfl⟩ := hrel
    by_cases hlt : m < n
    · have hlt' : (m : Int) < (n : Int) := by omega
      obtain ⟨g, rfl, c0, c1, c2⟩ := ogG_at HO.out m hlt
      rw [marksG_at k n m hlt] at c0 c1 c2
      unfold mkG at c0 c1 c2
      dsimp only at c0 c1 c2
      obtain ⟨K, hK⟩ : ∃ K : Nat, K = k + 3 * m := ⟨_, rfl⟩
      have HK := hide hK
      have hKb : K ≤ 8388600 := by omega
      rw [← hK] at c0 c1 c2 ⊢
      clear hK
      have e0 : ((K : Int) != (K : Int)) = false := by simp
      have e1 : ((K : Int) + 1 != ((K + 1 : Nat) : Int)) = false := by simp
      have e2 : ((K : Int) + 1 + 1 != ((K + 2 : Nat) : Int)) = false := by simp; omega
      go_wp2
      go_round
      case rel => exact ⟨m + 1, by omega, by go_num, by rw [HK.out]; go_num⟩
      case measure => simp [intOf]; omega
    · have e : Hid (m = n) := by show m = n; omega
      go_wp2
      go_ret
      exact ⟨ret_int (by rw [e.out]), rfl⟩
end Go.Proofs.YtngdgogjlpjjpadGreat

namespace Go.Proofs.YtngdgogjlpjjpadGreat
open Go.RowKit
set_option linter.unusedVariables false
set_option linter.unusedSimpArgs false
set_option maxRecDepth 100000

/-- how many marks the first rows take -/
def sumT (f : Nat → TB) : Nat → Nat
  | 0 => 0
  | n + 1 => sumT f n + 3 * (f n).1.length
theorem sumT_le (f : Nat → TB) : ∀ n i, i < n → 3 * (f i).1.length + sumT f i ≤ sumT f n
  | 0, i, h => by omega
  | n + 1, i, h => by
    show _ ≤ sumT f n + 3 * (f n).1.length
    by_cases e : i = n
    · subst e; omega
    · have := sumT_le f n i (by omega); omega
def St (f : Nat → TB) (n j : Nat) : Prop := ∃ i, i < n ∧ (svT (f i)).ownBlock = some j
/-- rows of targets with any contents of the same length, whose heads lie elsewhere -/
structure Rt (w : World) (base : Nat) (a : Option Addr) (n : Nat) (f : Nat → TB) (X : Nat → List Tg) : Prop where
  head : n ≠ 0 → ∃ g cs, a = some ⟨g, 0, none⟩ ∧ ¬ St f n g ∧ Blk w g cs 97 ∧ ∀ i, i < n → cs[i]? = some (svT (f i))
  rows : ∀ i, i < n → OG 72 3 clG w base (svT (f i)) (X i)
  apart : ∀ i j, i < n → j < n → i ≠ j → ∀ k, (svT (f i)).ownBlock = some k → (svT (f j)).ownBlock ≠ some k
def mrkT (k : Nat) (f : Nat → TB) (i : Nat) : List Tg := marksG (k + sumT f i) (f i).1.length

set_option maxHeartbeats 2000000 in
theorem markTargetSS_any (a : Option Addr) (n cap k base : Nat) (f : Nat → TB) (X : Nat → List Tg) (w : World) (h : Rt w base a n f X) (hn : n ≤ 1048576) (hs : sumT f n ≤ 1048576) (hk : k ≤ 2097152) :
    Calls Tryz.prog 132 #[.slice a n cap, .int .i64 k] w fun e w' => e = .returned (.int .i64 ((k + sumT f n : Nat) : Int)) ∧ Rt w' base a n f (mrkT k f) ∧ Turn (St f n) w w' := by
  have HH := hide h
  clear h
  go_enter Tryz.func132, Tryz.ntmps132
  go_wp2
  go_loopw [1, 5] (fun x i wr => ∃ m : Nat, m ≤ n ∧ i = .int .i64 m ∧ x = .int .i64 ((k + sumT f m : Nat) : Int) ∧ Rt wr base a n f (fun i => if i < m then mrkT k f i else X i) ∧ Turn (St f n) w wr) (fun _ i _ => n - (intOf i).toNat)
  case atStart => exact ⟨0, Nat.zero_le _, rfl, rfl, HH.out, Turn.refl _ _⟩
  case round =>
    obtain ⟨m, hm, rfl, rfl, R, T⟩ := hrel
    by_cases hlt : m < n
    · have hlt' : (m : Int) < (n : Int) := by omega
      obtain ⟨g, cs, rfl, hng, hb, hc⟩ := R.head (by omega)
      have c0 := (hb.cell m).trans (hc m hlt)
      have hle := sumT_le f n m hlt
      have hr := R.rows m hlt
      simp only [Nat.lt_irrefl, if_false] at hr
      have HMK := hide (markTargetS_any (f m).2.1 (f m).1.length (f m).2.2 base (X m) (k + sumT f m) wr hr (by omega) (by omega))
      have HFIN := hide (fun (w1 : World) (O1 : OG 72 3 clG w1 base (svT (f m)) (marksG (k + sumT f m) (f m).1.length)) (T1 : Turn (fun j => (svT (f m)).ownBlock = some j) wr w1) => show Rt w1 base (some ⟨g, 0, none⟩) n f (fun i => if i < m + 1 then mrkT k f i else X i) ∧ Turn (St f n) w w1 from by
        refine ⟨⟨fun _ => ⟨g, cs, rfl, hng, turn_blk T1 hb (fun e => hng ⟨m, hlt, e⟩), hc⟩, fun i hi => ?_, R.apart⟩, T.trans (T1.mono (fun j hj => ⟨m, hlt, hj⟩))⟩
        by_cases e : i = m
        · subst e
          simp only [show i < i + 1 by omega, if_true]
          exact O1
        · have hi' := (R.rows i hi).kept T1 (fun q hq hq' => R.apart i m hi hlt e q hq hq')
          by_cases e2 : i < m
          · simp only [e2, if_true, show i < m + 1 by omega] at hi' ⊢
            exact hi'
          · simp only [e2, if_false, show ¬ i < m + 1 by omega] at hi' ⊢
            exact hi')
      have HSU := hide (show sumT f (m + 1) = sumT f m + 3 * (f m).1.length from rfl)
      clear R T hb hc hr
      generalize sumT f m = sm at *
      unfold svT at c0 HFIN
      generalize f m = fm at *
      obtain ⟨fl, fa, fc⟩ := fm
      dsimp only at *
      go_wp2_with fail
      refine HMK.out.mono ?_
      rintro e w1 ⟨rfl, O1, T1⟩
      have HX := hide (HFIN.out w1 O1 T1)
      clear O1 T1 HFIN HMK c0
      go_wp2
      go_roundw
      case rel => exact ⟨m + 1, by omega, by go_num, by rw [HSU.out]; go_num, HX.out.1, HX.out.2⟩
      case measure => simp [intOf]; omega
    · have e : Hid (m = n) := by show m = n; omega
      have HX := hide (And.intro R T)
      clear R T
      go_wp2
      go_ret
      refine ⟨ret_int (by rw [e.out]), ?_, HX.out.2⟩
      have R := HX.out.1
      refine ⟨R.head, fun i hi => ?_, R.apart⟩
      have := R.rows i hi
      rw [e.out] at this
      simp only [hi, if_true] at this
      exact this
end Go.Proofs.YtngdgogjlpjjpadGreat

namespace Go.Proofs.YtngdgogjlpjjpadGreat
open Go.RowKit
set_option linter.unusedVariables false
set_option linter.unusedSimpArgs false
set_option maxRecDepth 100000

set_option maxHeartbeats 2000000 in
theorem heldTargetSS_any (a : Option Addr) (n cap k base : Nat) (f : Nat → TB) (w : World) (h : Rt w base a n f (mrkT k f)) (hn : n ≤ 1048576) (hs : sumT f n ≤ 1048576) (hk : k ≤ 2097152) :
    Calls Tryz.prog 134 #[.slice a n cap, .int .i64 k] w fun e w' => e = .returned (.int .i64 ((k + sumT f n : Nat) : Int)) ∧ w = w' := by
  have HH := hide h
  clear h
  go_enter Tryz.func134, Tryz.ntmps134
  go_wp2
  go_loop [1, 5] (fun x i => ∃ m : Nat, m ≤ n ∧ i = .int .i64 m ∧ x = .int .i64 ((k + sumT f m : Nat) : Int)) (fun _ i => n - (intOf i).toNat)
  case atStart => exact ⟨0, Nat.zero_le _, rfl, rfl⟩
  case round =>
    obtain ⟨m, hm, rfl, rfl⟩ := hrel
    by_cases hlt : m < n
    · have hlt' : (m : Int) < (n : Int) := by omega
      obtain ⟨g, cs, rfl, hng, hb, hc⟩ := HH.out.head (by omega)
      have c0 := (hb.cell m).trans (hc m hlt)
      have hle := sumT_le f n m hlt
      have hr := HH.out.rows m hlt
      unfold mrkT at hr
      have HMK := hide (heldTargetS_any (f m).2.1 (f m).1.length (f m).2.2 base (k + sumT f m) w hr (by omega) (by omega))
      have HSU := hide (show sumT f (m + 1) = sumT f m + 3 * (f m).1.length from rfl)
      clear hb hc hr
      generalize sumT f m = sm at *
      unfold svT at c0
      generalize f m = fm at *
      obtain ⟨fl, fa, fc⟩ := fm
      dsimp only at *
      go_wp2_with fail
      refine HMK.out.mono ?_
      rintro e w1 ⟨rfl, rfl⟩
      have hnn : ¬ (((k + sm + 3 * fl.length : Nat) : Int) < 0) := by omega
      clear HMK
      go_wp2
      go_round
      case rel => exact ⟨m + 1, by omega, by go_num, by rw [HSU.out]; go_num⟩
      case measure => simp [intOf]; omega
    · have e : Hid (m = n) := by show m = n; omega
      go_wp2
      go_ret
      exact ⟨ret_int (by rw [e.out]), rfl⟩
end Go.Proofs.YtngdgogjlpjjpadGreat

namespace Go.Proofs.YtngdgogjlpjjpadGreat
open Go.RowKit
set_option linter.unusedVariables false
set_option linter.unusedSimpArgs false
set_option maxRecDepth 100000

theorem run_digit (w : World) (d : Int) (h0 : 0 ≤ d) (h1 : d ≤ 255) : (convert 22 9 (.slice (some ⟨w.heap.size, 0, none⟩) 1 1)).run Tryz.prog (w.alloc (.cells #[.int .u8 d] 5)) = .ok (.string ⟨#[UInt8.ofNat d.toNat]⟩) (w.alloc (.cells #[.int .u8 d] 5)) := by
  have e : ((UInt8.ofNat d.toNat).toNat : Int) = d := by
    have : (UInt8.ofNat d.toNat).toNat = d.toNat % 256 := UInt8.toNat_ofNat'
    omega
  refine run_convert_bytes_back (P := Tryz.prog) (w.alloc (.cells #[.int .u8 d] 5)) 22 9 5 ⟨w.heap.size, 0, none⟩ 1 [UInt8.ofNat d.toNat] Tryz.underlying22 Tryz.underlying5 Tryz.underlying9 ?_
  intro j hj
  obtain rfl : j = 0 := by simp at hj; omega
  rw [addr_add, Blk.cell (Blk.new w _ _)]
  exact congrArg (fun z => some (Value.int .u8 z)) e.symm

set_option maxHeartbeats 1000000 in
theorem markText_any (k : Nat) (w : World) (hk : k ≤ 8388608) : Calls Tryz.prog 127 #[.int .i64 k] w fun e w' => ∃ s, e = .returned (.string s) ∧ s.size ≤ 8388610 ∧ Below w.heap.size w w' := by
  by_cases h0 : k = 0
  · subst h0
    go_enter Tryz.func127, Tryz.ntmps127
    go_wp2
    go_ret
    exact ⟨_, rfl, by decide, Below.refl _ _⟩
  have hk0 : 0 < (k : Int) := by omega
  go_enter Tryz.func127, Tryz.ntmps127
  go_wp2_with fail
  go_loopw [0, 3] (fun x o wr => ∃ (m : Nat) (s : ByteArray), x = .int .i64 m ∧ o = .string s ∧ s.size + m ≤ 8388608 ∧ Below w.heap.size w wr) (fun x _ _ => (intOf x).toNat)
  case atStart => exact ⟨k, ⟨#[]⟩, rfl, rfl, by show 0 + k ≤ _; omega, Below.refl _ _⟩
  case round =>
    obtain ⟨m, s, rfl, rfl, hm, hB⟩ := hrel
    clear hk hk0 h0
    by_cases hlt : 0 < m
    · have hlt' : 0 < (m : Int) := by omega
      have hcv := fun (W : World) => run_digit W (48 + (m : Int) % 10) (by omega) (by omega)
      have HB := hide hB
      have hBs := hB.size
      clear hB
      go_wp2
      go_roundw
      case rel =>
        refine ⟨m / 10, _, by go_num, rfl, ?_, HB.out.alloc hBs _⟩
        simp [ByteArray.size_append]
        have e1 : (⟨#[48 + UInt8.ofNat (m % 10)]⟩ : ByteArray).size = 1 := rfl
        omega
      case measure => simp [intOf]; omega
    · obtain rfl : m = 0 := by omega
      go_wp2
      go_ret
      exact ⟨_, rfl, by have e1 : (⟨#[109]⟩ : ByteArray).size = 1 := rfl; simp only [ByteArray.size_append]; omega, hB⟩
end Go.Proofs.YtngdgogjlpjjpadGreat
