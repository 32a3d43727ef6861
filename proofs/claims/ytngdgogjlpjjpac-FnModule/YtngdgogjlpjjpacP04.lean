import Derived.Lib.Bytealg
import Derived.WideShapes
import Derived.Test.YtngdgogjlpjjpacP00
import Derived.Test.YtngdgogjlpjjpacP01
namespace Go.Proofs.Ytngdgogjlpjjpac
open Go.RowKit
set_option linter.unusedVariables false
theorem BS.drop {w : World} {b off n cap : Nat} {zs : List Int} (h : BS w (some ⟨b, off, none⟩) n cap zs) (k : Nat) (hk : k ≤ n) : BS w (some ⟨b, off + k, none⟩) (n - k) (cap - k) (zs.drop k) := by
  have hl := h.1
  refine ⟨by simp; omega, by have := h.2.1; omega, fun z hz => h.2.2.1 z (List.mem_of_mem_drop hz), fun hn => ⟨b, off + k, rfl, fun i hi => ?_⟩, by have := h.2.2.2.2; omega⟩
  have := h.at (k + i) (by omega)
  rw [Nat.add_assoc, this]
  simp [List.getD_eq_getElem?_getD]
theorem BS.take {w : World} {b off n cap : Nat} {zs : List Int} (h : BS w (some ⟨b, off, none⟩) n cap zs) (s : Nat) (hs : s ≤ n) : BS w (some ⟨b, off, none⟩) s cap (zs.take s) := by
  have hl := h.1
  refine ⟨by simp; omega, by have := h.2.1; omega, fun z hz => h.2.2.1 z (List.mem_of_mem_take hz), fun hn => ⟨b, off, rfl, fun i hi => ?_⟩, by have := h.2.2.2.2; omega⟩
  have := h.at i (by omega)
  rw [this]
  simp [List.getD_eq_getElem?_getD, hi]
def rd (n1 n2 n3 : Nat) (x1 x2 : List Int) (p s : Int) : Int × Int :=
  if mok n1 n2 n3 = true ∧ wd s = true then
    if (p.tmod s != 0) = true then (0, 1)
    else if p = 131072 then (0, 4)
      else if ins p s 0 n1 = true then (low ((x1.drop p.toNat).take s.toNat), 0)
      else if ins p s 65536 n2 = true then (low ((x2.drop (p - 65536).toNat).take s.toNat), 0) else (0, 2)
  else (0, 2)
theorem BS.some {w : World} {a : Option Addr} {n cap : Nat} {zs : List Int} (h : BS w a n cap zs) (hn : n ≠ 0) : ∃ b off, a = Option.some ⟨b, off, none⟩ := by
  obtain ⟨b, off, e, _⟩ := h.2.2.2.1 hn
  exact ⟨b, off, e⟩
structure Turn (S : Nat → Prop) (w w' : World) : Prop where
  os : w'.os = w.os
  tape : w'.tape = w.tape
  output : w'.output = w.output
  size : w.heap.size ≤ w'.heap.size
  block : ∀ k, k < w.heap.size → ¬ S k → w'.heap[k]? = w.heap[k]?
theorem Turn.refl (S : Nat → Prop) (w : World) : Turn S w w := ⟨rfl, rfl, rfl, Nat.le_refl _, fun _ _ _ => rfl⟩
theorem Turn.trans {S : Nat → Prop} {a b c : World} (h : Turn S a b) (k : Turn S b c) : Turn S a c :=
  ⟨k.os.trans h.os, k.tape.trans h.tape, k.output.trans h.output, Nat.le_trans h.size k.size, fun j hj hs => (k.block j (Nat.lt_of_lt_of_le hj h.size) hs).trans (h.block j hj hs)⟩
theorem Turn.mono {S S' : Nat → Prop} {w w' : World} (h : Turn S w w') (hs : ∀ k, S k → S' k) : Turn S' w w' := ⟨h.os, h.tape, h.output, h.size, fun k hk hn => h.block k hk (fun e => hn (hs k e))⟩
theorem turn_below {S : Nat → Prop} {w w' : World} (h : Below w.heap.size w w') : Turn S w w' := ⟨h.os, h.tape, h.output, h.size, fun k hk _ => h.block k hk⟩
theorem turn_alloc {S : Nat → Prop} (w : World) (o : Obj) : Turn S w (w.alloc o) := turn_below ((Below.refl _ _).alloc (Nat.le_refl _) _)
theorem below_turn {B : Nat} {S : Nat → Prop} {a w w' : World} (h : Below B a w) (ht : Turn S w w') (hS : ∀ k, S k → B ≤ k) (hB : B ≤ w.heap.size) : Below B a w' :=
  ⟨ht.os.trans h.os, ht.tape.trans h.tape, ht.output.trans h.output, Nat.le_trans h.size ht.size, fun k hk => (ht.block k (by omega) (fun e => by have := hS k e; omega)).trans (h.block k hk)⟩
theorem turn_blk {S : Nat → Prop} {w w' : World} {k : Nat} {cs : Array Value} {t : TypeId} (ht : Turn S w w') (h : Blk w k cs t) (hk : ¬ S k) : Blk w' k cs t := by
  have := ht.block k h.lt hk
  unfold Blk at *; rw [this]; exact h
theorem turn_bs {S : Nat → Prop} {w w' : World} {a : Option Addr} {n cap : Nat} {zs : List Int} (ht : Turn S w w') (h : BS w a n cap zs) (hk : ∀ k, S k → ∀ b off, a = some ⟨b, off, none⟩ → b ≠ k) : BS w' a n cap zs := by
  obtain ⟨h1, h2, h3, h4, h5⟩ := h
  refine ⟨h1, h2, h3, fun hn => ?_, h5⟩
  obtain ⟨b, off, ha, hc⟩ := h4 hn
  refine ⟨b, off, ha, fun i hi => ?_⟩
  have := hc i hi
  have hl := World.block_lt_of_cell? w _ this
  rw [World.cell?_of_block (w := w) (ht.block b hl (fun e => hk b e b off ha rfl))]
  exact this
theorem addr_add (b off i : Nat) : (Addr.add ⟨b, off, none⟩ i) = ⟨b, off + i, none⟩ := by
  simp only [Addr.add]
  split
  · next h => subst h; rfl
  · rfl
abbrev Rg := Int × Int × Int × Bool × Bool × Bool
def z6 : Rg := (0, 0, 0, false, false, false)
def At6 (w : World) (b o : Nat) (g : Rg) : Prop :=
  w.cell? ⟨b, o, none⟩ = some (.int .i64 g.1) ∧ w.cell? ⟨b, o + 1, none⟩ = some (.int .i64 g.2.1) ∧ w.cell? ⟨b, o + 2, none⟩ = some (.int .i64 g.2.2.1) ∧
  w.cell? ⟨b, o + 3, none⟩ = some (.bool g.2.2.2.1) ∧ w.cell? ⟨b, o + 4, none⟩ = some (.bool g.2.2.2.2.1) ∧ w.cell? ⟨b, o + 5, none⟩ = some (.bool g.2.2.2.2.2)
def wfi (z : Int) : Prop := -9223372036854775808 ≤ z ∧ z ≤ 9223372036854775807
def RS (w : World) (a : Option Addr) (n cap : Nat) (rs : List Rg) : Prop :=
  rs.length = n ∧ n ≤ maxLen ∧ (∀ g ∈ rs, wfi g.1 ∧ wfi g.2.1 ∧ wfi g.2.2.1) ∧ (n ≠ 0 → ∃ b off, a = some ⟨b, off, none⟩ ∧ ∀ i, i < n → At6 w b (off + i * 6) (rs.getD i z6)) ∧ n ≤ cap
theorem At6.below {w w' : World} {b o : Nat} {g : Rg} (h : At6 w b o g) (hb : Below w.heap.size w w') : At6 w' b o g := by
  obtain ⟨h1, h2, h3, h4, h5, h6⟩ := h
  have hl : b < w.heap.size := World.block_lt_of_cell? w _ h1
  unfold At6
  rw [hb.cell (p := ⟨b, o, none⟩) hl, hb.cell (p := ⟨b, o + 1, none⟩) hl, hb.cell (p := ⟨b, o + 2, none⟩) hl, hb.cell (p := ⟨b, o + 3, none⟩) hl, hb.cell (p := ⟨b, o + 4, none⟩) hl, hb.cell (p := ⟨b, o + 5, none⟩) hl]
  exact ⟨h1, h2, h3, h4, h5, h6⟩
theorem RS.below {w w' : World} {a : Option Addr} {n cap : Nat} {rs : List Rg} (h : RS w a n cap rs) (hb : Below w.heap.size w w') : RS w' a n cap rs := by
  obtain ⟨h1, h2, h3, h4, h5⟩ := h
  refine ⟨h1, h2, h3, fun hn => ?_, h5⟩
  obtain ⟨b, off, ha, hc⟩ := h4 hn
  exact ⟨b, off, ha, fun i hi => (hc i hi).below hb⟩
theorem RS.some {w : World} {a : Option Addr} {n cap : Nat} {rs : List Rg} (h : RS w a n cap rs) (hn : n ≠ 0) : ∃ b off, a = Option.some ⟨b, off, none⟩ := by
  obtain ⟨b, off, e, _⟩ := h.2.2.2.1 hn
  exact ⟨b, off, e⟩
theorem RS.at {w : World} {b off n cap : Nat} {rs : List Rg} (h : RS w (Option.some ⟨b, off, none⟩) n cap rs) (i : Nat) (hi : i < n) : At6 w b (off + i * 6) (rs.getD i z6) := by
  obtain ⟨b', off', e, hd⟩ := h.2.2.2.1 (by omega)
  simp at e
  obtain ⟨rfl, rfl⟩ := e
  exact hd i hi
end Go.Proofs.Ytngdgogjlpjjpac
namespace Go.Proofs.Ytngdgogjlpjjpac
open Go.RowKit
set_option linter.unusedVariables false
set_option linter.unusedSimpArgs false
set_option maxRecDepth 100000
def byt (s : ByteArray) (k : Nat) : Int := ((s.get! k).toNat : Int)
theorem byt_range (s : ByteArray) (k : Nat) : 0 ≤ byt s k ∧ byt s k ≤ 255 := by
  unfold byt
  have := (s.get! k).toNat_lt
  omega
theorem get_bang (s : ByteArray) (k : Nat) (h : k < s.size) : s.get! k = s[k]'h := by
  simp only [ByteArray.get!, getElem!_def]
  have : s.data[k]? = some (s.data[k]'h) := Array.getElem?_eq_getElem h
  rw [this]
  rfl
theorem str_index (s : ByteArray) (k : Nat) (h : k < s.size) (w : World) : (Instr.index 9 (.string s) (.int .i64 (k : Int))).run Try.prog w = .ok (.int .u8 (byt s k)) w := by
  rw [run_index_string w 9 s .i64 (k : Int) Try.underlying9, dif_pos (by omega)]
  simp only [byt, Int.toNat_natCast, get_bang s k h]
def nmo (s : ByteArray) : Bool := decide (1 ≤ s.size ∧ s.size ≤ 12) && (List.range s.size).all fun k => decide (97 ≤ byt s k ∧ byt s k ≤ 122)
theorem nmo_bad (s : ByteArray) (k : Nat) (hk : k < s.size) (h : ¬ (97 ≤ byt s k ∧ byt s k ≤ 122)) : nmo s = false := by
  unfold nmo
  rw [Bool.and_eq_false_iff]
  right
  rw [List.all_eq_false]
  exact ⟨k, by simpa using hk, by simpa using h⟩
theorem nmo_good (s : ByteArray) (h : ∀ j, j < s.size → 97 ≤ byt s j ∧ byt s j ≤ 122) : nmo s = decide (1 ≤ s.size ∧ s.size ≤ 12) := by
  unfold nmo
  rw [show ((List.range s.size).all fun k => decide (97 ≤ byt s k ∧ byt s k ≤ 122)) = true from List.all_eq_true.2 (fun k hk => by simpa using h k (by simpa using hk)), Bool.and_true]
set_option maxHeartbeats 1000000 in
theorem l4NameOk_any (s : ByteArray) (w : World) (hs : s.size ≤ 1048576) :
    Calls Try.prog 68 #[.string s] w fun e w' => e = .returned (.bool (nmo s)) ∧ w = w' := by
  obtain ⟨N, hN⟩ : ∃ N, N = s.size := ⟨_, rfl⟩
  go_enter Try.func68, Try.ntmps68
  go_wp2_with fail
  go_loop [3] (fun i => ∃ k : Nat, k ≤ s.size ∧ i = .int .i64 k ∧ Hid (∀ j, j < k → 97 ≤ byt s j ∧ byt s j ≤ 122)) (fun i => s.size - (intOf i).toNat)
  case atStart => exact ⟨0, Nat.zero_le _, rfl, hide (fun j hj => by omega)⟩
  case round =>
    obtain ⟨k, hk, rfl, HJ⟩ := hrel
    by_cases hlt : k < s.size
    · have hlt' : (k : Int) < (s.size : Int) := by omega
      have hix := str_index s k hlt
      obtain ⟨z0, z1⟩ := byt_range s k
      have HZ := hide (nmo_bad s k hlt)
      have HG := hide (show 97 ≤ byt s k ∧ byt s k ≤ 122 → ∀ j, j < k + 1 → 97 ≤ byt s j ∧ byt s j ≤ 122 from fun h j hj => by
        by_cases e : j = k
        · subst e; exact h
        · exact HJ.out j (by omega))
      generalize byt s k = z at *
      by_cases c1 : z < 97
      · have c1' : (z < 97) = True := by simp [c1]
        go_wp2
        go_ret
        exact ⟨ret_bool (HZ.out (by omega)).symm, rfl⟩
      · by_cases c2 : 122 < z
        · go_wp2
          go_ret
          exact ⟨ret_bool (HZ.out (by omega)).symm, rfl⟩
        · go_wp2
          go_round
          case rel => exact ⟨k + 1, by omega, by go_num, hide (HG.out (by omega))⟩
          case measure => simp [intOf]; omega
    · have e : Hid (k = s.size) := by show k = s.size; omega
      have HE := hide (nmo_good s (fun j hj => HJ.out j (by rw [e.out]; exact hj)))
      by_cases c1 : 1 ≤ s.size
      · by_cases c2 : s.size ≤ 12
        · go_wp2
          go_ret
          exact ⟨ret_bool (by have := e.out; rw [HE.out, Bool.eq_iff_iff]; simp; omega), rfl⟩
        · go_wp2
          go_ret
          exact ⟨ret_bool (by have := e.out; rw [HE.out, Bool.eq_iff_iff]; simp; omega), rfl⟩
      · go_wp2
        go_ret
        exact ⟨ret_bool (by have := e.out; rw [HE.out, Bool.eq_iff_iff]; simp; omega), rfl⟩
set_option maxHeartbeats 1000000 in
theorem isName_any (s : ByteArray) (w : World) (hs : s.size ≤ 1048576) :
    Calls Try.prog 76 #[.string s] w fun e w' => e = .returned (.bool (nmo s)) ∧ w = w' := by
  by_cases c1 : s.size < 1
  · have HF : Hid (nmo s = false) := by show _ = _; unfold nmo; rw [Bool.and_eq_false_iff]; left; simp; omega
    have c1' : (s.size : Int) < 1 := by omega
    go_enter Try.func76, Try.ntmps76
    go_wp2
    go_ret
    exact ⟨ret_bool HF.out.symm, rfl⟩
  · by_cases c2 : 12 < s.size
    · have HF : Hid (nmo s = false) := by show _ = _; unfold nmo; rw [Bool.and_eq_false_iff]; left; simp; omega
      have c1' : ¬ (s.size : Int) < 1 := by omega
      have c2' : (12 : Int) < (s.size : Int) := by omega
      go_enter Try.func76, Try.ntmps76
      go_wp2
      go_ret
      exact ⟨ret_bool HF.out.symm, rfl⟩
    · have c1' : ¬ (s.size : Int) < 1 := by omega
      have c2' : ¬ (12 : Int) < (s.size : Int) := by omega
      go_enter Try.func76, Try.ntmps76
      go_wp2_with fail
      go_loop [14] (fun i => ∃ k : Nat, k ≤ s.size ∧ i = .int .i64 k ∧ Hid (∀ j, j < k → 97 ≤ byt s j ∧ byt s j ≤ 122)) (fun i => s.size - (intOf i).toNat)
      case atStart => exact ⟨0, Nat.zero_le _, rfl, hide (fun j hj => by omega)⟩
      case round =>
        obtain ⟨k, hk, rfl, HJ⟩ := hrel
        by_cases hlt : k < s.size
        · have hlt' : (k : Int) < (s.size : Int) := by omega
          have hix := str_index s k hlt
          obtain ⟨z0, z1⟩ := byt_range s k
          have HZ := hide (nmo_bad s k hlt)
          have HG := hide (show 97 ≤ byt s k ∧ byt s k ≤ 122 → ∀ j, j < k + 1 → 97 ≤ byt s j ∧ byt s j ≤ 122 from fun h j hj => by
            by_cases e : j = k
            · subst e; exact h
            · exact HJ.out j (by omega))
          generalize byt s k = z at *
          by_cases d1 : z < 97
          · go_wp2
            go_ret
            exact ⟨ret_bool (HZ.out (by omega)).symm, rfl⟩
          · by_cases d2 : 122 < z
            · go_wp2
              go_ret
              exact ⟨ret_bool (HZ.out (by omega)).symm, rfl⟩
            · go_wp2
              go_round
              case rel => exact ⟨k + 1, by omega, by go_num, hide (HG.out (by omega))⟩
              case measure => simp [intOf]; omega
        · have e : Hid (k = s.size) := by show k = s.size; omega
          have HE := hide (nmo_good s (fun j hj => HJ.out j (by rw [e.out]; exact hj)))
          go_wp2
          go_ret
          exact ⟨ret_bool (by have := e.out; rw [HE.out, Bool.eq_iff_iff]; simp; omega), rfl⟩
def dotFrom (s : ByteArray) : Nat → Nat → Int
  | 0, _ => -1
  | f + 1, k => if byt s k = 46 then (k : Int) else dotFrom s f (k + 1)
def dot (s : ByteArray) : Int := dotFrom s s.size 0
set_option maxHeartbeats 1000000 in
theorem l4Dot_any (s : ByteArray) (w : World) (hs : s.size ≤ 1048576) :
    Calls Try.prog 56 #[.string s] w fun e w' => e = .returned (.int .i64 (dot s)) ∧ w = w' := by
  go_enter Try.func56, Try.ntmps56
  go_wp2_with fail
  go_loop [3] (fun i => ∃ k : Nat, k ≤ s.size ∧ i = .int .i64 k ∧ Hid (dot s = dotFrom s (s.size - k) k)) (fun i => s.size - (intOf i).toNat)
  case atStart => exact ⟨0, Nat.zero_le _, rfl, hide rfl⟩
  case round =>
    obtain ⟨k, hk, rfl, HJ⟩ := hrel
    by_cases hlt : k < s.size
    · have hlt' : (k : Int) < (s.size : Int) := by omega
      have hix := str_index s k hlt
      obtain ⟨z0, z1⟩ := byt_range s k
      have HD := hide (show dot s = if byt s k = 46 then (k : Int) else dotFrom s (s.size - (k + 1)) (k + 1) from by
        rw [HJ.out, show s.size - k = (s.size - (k + 1)) + 1 by omega]; rfl)
      clear HJ
      generalize byt s k = z at *
      by_cases c1 : z = 46
      · have HE := hide (show dot s = (k : Int) from by rw [HD.out, if_pos c1])
        subst c1
        go_wp2
        go_ret
        exact ⟨ret_int HE.out.symm, rfl⟩
      · have HE := hide (show dot s = dotFrom s (s.size - (k + 1)) (k + 1) from by rw [HD.out, if_neg c1])
        have c1' : (z == 46) = false := by simpa using c1
        go_wp2
        go_round
        case rel => exact ⟨k + 1, by omega, by go_num, HE⟩
        case measure => simp [intOf]; omega
    · have e : Hid (dot s = -1) := by
        show dot s = -1
        rw [HJ.out, show s.size - k = 0 by omega]; rfl
      go_wp2
      go_ret
      exact ⟨ret_int e.out.symm, rfl⟩
theorem dotFrom_range (s : ByteArray) : ∀ (f k : Nat), dotFrom s f k = -1 ∨ ((k : Int) ≤ dotFrom s f k ∧ dotFrom s f k < k + f)
  | 0, k => Or.inl rfl
  | f + 1, k => by
    unfold dotFrom
    split
    · right; omega
    · rcases dotFrom_range s f (k + 1) with h | h
      · left; exact h
      · right; omega
theorem dot_range (s : ByteArray) : dot s = -1 ∨ (0 ≤ dot s ∧ dot s < s.size) := by
  have := dotFrom_range s s.size 0
  unfold dot
  omega
def cutA (s : ByteArray) : ByteArray := s.extract 0 (dot s).toNat
def cutB (s : ByteArray) : ByteArray := s.extract (dot s + 1).toNat s.size
theorem cutA_size (s : ByteArray) (hs : s.size ≤ 1048576) : (cutA s).size ≤ 1048576 := by
  unfold cutA
  rw [ByteArray.size_extract]
  omega
theorem cutB_size (s : ByteArray) (hs : s.size ≤ 1048576) : (cutB s).size ≤ 1048576 := by
  unfold cutB
  rw [ByteArray.size_extract]
  omega
def full (s : ByteArray) : Bool := decide (0 ≤ dot s) && (nmo (cutA s) && nmo (cutB s))
set_option maxHeartbeats 1000000 in
theorem l4FullOk_any (s : ByteArray) (w : World) (hs : s.size ≤ 1048576) :
    Calls Try.prog 55 #[.string s] w fun e w' => e = .returned (.bool (full s)) ∧ w = w' := by
  have HD := hide (fun w => l4Dot_any s w hs)
  have HA := hide (fun w => l4NameOk_any (cutA s) w (cutA_size s hs))
  have HB := hide (fun w => l4NameOk_any (cutB s) w (cutB_size s hs))
  obtain ⟨r, hr⟩ : ∃ r, r = full s := ⟨_, rfl⟩
  rw [← hr]
  unfold full at hr
  unfold cutA cutB at *
  rcases dot_range s with h | ⟨h0, h1⟩
  · rw [h] at HD hr
    have HR := hide (show r = false from by rw [hr]; rfl)
    clear HA HB hr h
    go_enter Try.func55, Try.ntmps55
    go_wp2_with (go_at_call 56; refine (HD.out _).mono ?_; rintro e w1 ⟨rfl, rfl⟩)
    go_ret
    exact ⟨ret_bool HR.out.symm, rfl⟩
  · generalize dot s = p at *
    generalize nmo (s.extract 0 p.toNat) = A at *
    generalize nmo (s.extract (p + 1).toNat s.size) = B at *
    have HR := hide (show r = (A && B) from by rw [hr]; simp [h0])
    clear hr
    cases A
    · go_enter Try.func55, Try.ntmps55
      go_wp2_with (first
        | (go_at_call 56; refine (HD.out _).mono ?_; rintro e w1 ⟨rfl, rfl⟩)
        | (go_at_call 68; refine (HA.out _).mono ?_; rintro e w1 ⟨rfl, rfl⟩))
      go_ret
      exact ⟨ret_bool HR.out.symm, rfl⟩
    · go_enter Try.func55, Try.ntmps55
      go_wp2_with fail
      refine (HD.out _).mono ?_
      rintro e w1 ⟨rfl, rfl⟩
      go_wp2_with fail
      refine (HA.out _).mono ?_
      rintro e w1 ⟨rfl, rfl⟩
      go_wp2_with fail
      refine (HB.out _).mono ?_
      rintro e w1 ⟨rfl, rfl⟩
      go_wp2
      go_ret
      exact ⟨ret_bool HR.out.symm, rfl⟩
theorem idx_dot (l : List UInt8) : ∀ (s : ByteArray) (k : Nat), s.data.toList.drop k = l → Lib.indexByte l (46 : Int).toNat.toUInt8 = (let d := dotFrom s l.length k; if d = -1 then -1 else d - k) := by
  induction l with
  | nil => intro s k h; rfl
  | cons b l ih =>
    intro s k h
    have hk : k < s.data.toList.length := by
      by_cases e : k < s.data.toList.length
      · exact e
      · rw [List.drop_eq_nil_of_le (by omega)] at h; cases h
    have hks : k < s.size := by simpa using hk
    have hb : s.data.toList[k]'hk = b := by
      have h2 : s.data.toList[k]? = some b := by
        have := congrArg (fun t => t[0]?) h
        simpa using this
      rw [List.getElem?_eq_getElem hk] at h2
      injection h2
    have hd : s.data.toList.drop (k + 1) = l := by
      have := congrArg List.tail h
      simpa using this
    have hbyt : byt s k = (b.toNat : Int) := by
      unfold byt
      rw [get_bang s k hks, ← hb]
      rfl
    have ih' := ih s (k + 1) hd
    simp only [Lib.indexByte, List.length_cons, dotFrom, hbyt]
    rw [ih']
    have e46 : (46 : Int).toNat.toUInt8 = 46 := rfl
    rw [e46]
    by_cases c : b = 46
    · subst c
      simp
    · have c1 : (b == 46) = false := by simpa using c
      have c2 : ¬ ((b.toNat : Int) = 46) := fun e => c (UInt8.toNat_inj.1 (by simpa using (by omega : b.toNat = 46)))
      rw [c1, if_neg c2]
      rcases dotFrom_range s l.length (k + 1) with e | e
      · simp [e]
      · have n1 : ¬ dotFrom s l.length (k + 1) = -1 := by omega
        simp only [n1, if_false, Bool.false_eq_true]
        split
        · next h => simp at h; omega
        · omega
theorem idx_dot' (s : ByteArray) : Lib.indexByte s.data.toList (46 : Int).toNat.toUInt8 = dot s := by
  have := idx_dot s.data.toList s 0 (by simp)
  rw [this]
  have e : s.data.toList.length = s.size := Array.length_toList
  unfold dot
  rw [e]
  rcases dotFrom_range s s.size 0 with h | h
  · simp [h]
  · simp only [if_neg (show ¬ dotFrom s s.size 0 = -1 by omega)]
    omega
set_option maxHeartbeats 1000000 in
theorem indexByte_any (s : ByteArray) (w : World) :
    Calls Try.prog 146 #[.string s, .int .u8 46] w fun e w' => e = .returned (.int .i64 (dot s)) ∧ w = w' := by
  have HD := hide (idx_dot' s)
  go_enter Try.func146, Try.ntmps146
  go_wp2
  rw [run_callFunc_extern Try.func152 (by kernel_rfl) (by kernel_rfl) (by kernel_rfl) (e := Extern.BytealgIndexByte.indexByte) (by kernel_rfl), Lib.run_indexByteString]
  simp only [Result.andThen]
  rw [Oper.upon_value]
  go_wp2
  go_ret
  exact ⟨ret_int HD.out, rfl⟩
set_option maxHeartbeats 1000000 in
theorem index_dot (s : ByteArray) (w : World) (hs : s.size ≤ 1048576) :
    Calls Try.prog 143 #[.string s, .string ⟨#[46]⟩] w fun e w' => e = .returned (.int .i64 (dot s)) ∧ w = w' := by
  have HI := hide (fun w => indexByte_any s w)
  by_cases he : (⟨#[46]⟩ : ByteArray) = s
  · subst he
    have HD : Hid (dot ⟨#[46]⟩ = 0) := by show _ = _; rfl
    clear HI
    go_enter Try.func143, Try.ntmps143
    go_wp2
    go_ret
    exact ⟨ret_int HD.out.symm, rfl⟩
  · have hne : ¬ ([46] : List UInt8) = s.toList := fun e => he (Go.WideShapes.bytes_inj (by rw [ByteArray.toList_eq] at e; exact e))
    have he' : (([46] : List UInt8) == s.toList) = false := by simpa using hne
    have he2 : ((⟨#[46]⟩ : ByteArray).toList == s.toList) = false := by rw [ByteArray.toList_eq]; exact he'
    have h46 : ∀ w : World, (Instr.index 9 (.string ⟨#[46]⟩) (.int .i64 0)).run Try.prog w = .ok (.int .u8 46) w := fun w => by kernel_rfl
    go_enter Try.func143, Try.ntmps143
    go_wp2_with (go_at_call 146; refine (HI.out _).mono ?_; rintro e w1 ⟨rfl, rfl⟩)
    go_ret
    exact ⟨rfl, rfl⟩
set_option maxHeartbeats 1000000 in
theorem slCut_any (s : ByteArray) (w : World) (hs : s.size ≤ 1048576) :
    Calls Try.prog 138 #[.string s, .string ⟨#[46]⟩] w fun e w' => e = .returned (.tuple #[.string (if 0 ≤ dot s then cutA s else s), .string (if 0 ≤ dot s then cutB s else ⟨#[]⟩), .bool (decide (0 ≤ dot s))]) ∧ Below w.heap.size w w' := by
  have HI := hide (fun w => index_dot s w hs)
  have HB := hide (Below.refl w.heap.size w)
  rcases dot_range s with h | ⟨h0, h1⟩
  · have hn : ¬ (0 ≤ dot s) := by omega
    rw [if_neg hn, if_neg hn, decide_eq_false hn]
    rw [h] at HI
    clear h hn
    go_enter Try.func138, Try.ntmps138
    go_wp2_with (go_at_call 143; refine (HI.out _).mono ?_; rintro e w1 ⟨rfl, rfl⟩)
    all_goals (try go_region)
    all_goals (try go_wp2)
    all_goals go_ret3
    all_goals exact ⟨rfl, by first | exact HB.out | exact HB.out.drew⟩
  · rw [if_pos h0, if_pos h0, decide_eq_true h0]
    unfold cutA cutB
    generalize dot s = p at *
    go_enter Try.func138, Try.ntmps138
    go_wp2_with (go_at_call 143; refine (HI.out _).mono ?_; rintro e w1 ⟨rfl, rfl⟩)
    all_goals (try go_region)
    all_goals (try go_wp2)
    all_goals go_ret3
    all_goals exact ⟨rfl, by first | exact HB.out | exact HB.out.drew⟩
set_option maxHeartbeats 1000000 in
theorem cut_any (s : ByteArray) (w : World) (hs : s.size ≤ 1048576) :
    Calls Try.prog 113 #[.string s, .string ⟨#[46]⟩] w fun e w' => e = .returned (.tuple #[.string (if 0 ≤ dot s then cutA s else s), .string (if 0 ≤ dot s then cutB s else ⟨#[]⟩), .bool (decide (0 ≤ dot s))]) ∧ Below w.heap.size w w' := by
  have HC := hide (fun w => slCut_any s w hs)
  generalize (if 0 ≤ dot s then cutA s else s) = A at *
  generalize (if 0 ≤ dot s then cutB s else ⟨#[]⟩) = B at *
  generalize decide (0 ≤ dot s) = C at *
  go_enter Try.func113, Try.ntmps113
  go_wp2_with (go_at_call 138; refine (HC.out _).mono ?_; rintro e w1 ⟨rfl, hb1⟩)
  go_ret3
  exact ⟨rfl, hb1⟩
theorem nmo_none : nmo ⟨#[]⟩ = false := rfl
def cutV (s : ByteArray) : Value := if full s then .tuple #[.string (cutA s), .string (cutB s), .bool true] else .tuple #[.string ⟨#[]⟩, .string ⟨#[]⟩, .bool false]
set_option maxHeartbeats 1000000 in
theorem cutImport_any (s : ByteArray) (w : World) (hs : s.size ≤ 1048576) :
    Calls Try.prog 57 #[.string s] w fun e w' => e = .returned (cutV s) ∧ Below w.heap.size w w' := by
  have HC := hide (fun w => cut_any s w hs)
  obtain ⟨V, hV⟩ : ∃ V, V = cutV s := ⟨_, rfl⟩
  rw [← hV]
  unfold cutV full at hV
  have hA : (if 0 ≤ dot s then cutA s else s).size ≤ 1048576 := by split; exact cutA_size s hs; exact hs
  have hB : (if 0 ≤ dot s then cutB s else ⟨#[]⟩).size ≤ 1048576 := by split; exact cutB_size s hs; exact (by decide)
  have HA := hide (fun w => isName_any _ w hA)
  have HB := hide (fun w => isName_any _ w hB)
  have hV' : V = if nmo (if 0 ≤ dot s then cutA s else s) && nmo (if 0 ≤ dot s then cutB s else ⟨#[]⟩) then .tuple #[.string (if 0 ≤ dot s then cutA s else s), .string (if 0 ≤ dot s then cutB s else ⟨#[]⟩), .bool true] else .tuple #[.string ⟨#[]⟩, .string ⟨#[]⟩, .bool false] := by
    by_cases h : 0 ≤ dot s
    · simp only [h, if_true, decide_true, Bool.true_and] at hV ⊢
      exact hV
    · simp only [h, if_false, decide_false, Bool.false_and, nmo_none, Bool.and_false] at hV ⊢
      exact hV
  clear hV hA hB
  generalize (if 0 ≤ dot s then cutA s else s) = A at *
  generalize (if 0 ≤ dot s then cutB s else ⟨#[]⟩) = B at *
  generalize decide (0 ≤ dot s) = C at *
  generalize nmo A = a at *
  generalize nmo B = b at *
  have HV := hide hV'
  clear hV'
  cases a
  · obtain rfl : V = .tuple #[.string ⟨#[]⟩, .string ⟨#[]⟩, .bool false] := HV.out
    go_enter Try.func57, Try.ntmps57
    go_wp2_with fail
    refine (HC.out _).mono ?_
    rintro e w1 ⟨rfl, hb1⟩
    go_wp2_with fail
    refine (HA.out _).mono ?_
    rintro e w2 ⟨rfl, rfl⟩
    go_wp2
    go_ret3
    exact ⟨rfl, hb1⟩
  · cases b
    · obtain rfl : V = .tuple #[.string ⟨#[]⟩, .string ⟨#[]⟩, .bool false] := HV.out
      go_enter Try.func57, Try.ntmps57
      go_wp2_with fail
      refine (HC.out _).mono ?_
      rintro e w1 ⟨rfl, hb1⟩
      go_wp2_with fail
      refine (HA.out _).mono ?_
      rintro e w2 ⟨rfl, rfl⟩
      go_wp2_with fail
      refine (HB.out _).mono ?_
      rintro e w2 ⟨rfl, rfl⟩
      go_wp2
      go_ret3
      exact ⟨rfl, hb1⟩
    · obtain rfl : V = .tuple #[.string A, .string B, .bool true] := HV.out
      go_enter Try.func57, Try.ntmps57
      go_wp2_with fail
      refine (HC.out _).mono ?_
      rintro e w1 ⟨rfl, hb1⟩
      go_wp2_with fail
      refine (HA.out _).mono ?_
      rintro e w2 ⟨rfl, rfl⟩
      go_wp2_with fail
      refine (HB.out _).mono ?_
      rintro e w2 ⟨rfl, rfl⟩
      go_wp2
      go_ret3
      exact ⟨rfl, hb1⟩
end Go.Proofs.Ytngdgogjlpjjpac
