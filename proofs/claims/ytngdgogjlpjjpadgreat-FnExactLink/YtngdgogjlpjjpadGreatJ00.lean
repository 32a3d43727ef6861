import Derived.Test.YtngdgogjlpjjpadGreatRows
import Derived.WalkKit
import Derived.WalkSpells
import Derived.WalkLawsBesides
import Derived.Lib.Bytealg
import Derived.WideShapes
namespace Go.Proofs.YtngdgogjlpjjpadGreat
open Go.RowKit
set_option linter.unusedVariables false

theorem ret_int {k : IntKind} {a b : Int} (h : a = b) : Ending.returned (.int k a) = .returned (.int k b) := by rw [h]
theorem ret_bool {a b : Bool} (h : a = b) : Ending.returned (.bool a) = .returned (.bool b) := by rw [h]

theorem hide {p : Prop} (h : p) : Hid p := h
theorem unhide {p : Prop} (h : Hid p) : p := h

theorem pow_lt (n : Nat) (h : n ≤ 20) : (2:Int)^n ≤ 1048576 := by
  have h1 : (2:Nat)^n ≤ 2^20 := Nat.pow_le_pow_right (by omega) h
  have h2 : ((2^n : Nat) : Int) = (2:Int)^n := by simp
  have h3 : (2:Nat)^20 = 1048576 := rfl
  omega
theorem pow_pos (n : Nat) : 0 < (2:Int)^n := by
  have h1 : 0 < (2:Nat)^n := Nat.pow_pos (by omega)
  have h2 : ((2^n : Nat) : Int) = (2:Int)^n := by simp
  omega

theorem bcell {W w1 : World} (hb : Below W.heap.size W w1) : (∀ b o, b < W.heap.size → w1.cell? ⟨b, o, none⟩ = W.cell? ⟨b, o, none⟩) ∧ (∀ b o, b < W.heap.size → w1.frozen? ⟨b, o, none⟩ = W.frozen? ⟨b, o, none⟩) :=
  ⟨fun b o h => hb.cell (p := ⟨b, o, none⟩) h, fun b o h => hb.frozen (p := ⟨b, o, none⟩) h⟩

end Go.Proofs.YtngdgogjlpjjpadGreat

namespace Go.Proofs.YtngdgogjlpjjpadGreat
open Go.RowKit
set_option linter.unusedVariables false
set_option linter.unusedSimpArgs false
set_option maxRecDepth 100000

/-- a byte of a text -/
def byt (s : ByteArray) (k : Nat) : Int := ((s.get! k).toNat : Int)
theorem byt_range (s : ByteArray) (k : Nat) : 0 ≤ byt s k ∧ byt s k ≤ 255 := by
  unfold byt
  have := (s.get! k).toNat_lt
  omega
theorem get_bang (s : ByteArray) (k : Nat) (h : k < s.size) : s.get! k = s[k]'h := by
  simp only [ByteArray.get!, getElem!_def]
  have : s.data[k]? = some (s.data[k]'h) := Array.getElem?_eq_getElem h
  rw [this]
  rfl
theorem str_index (s : ByteArray) (k : Nat) (h : k < s.size) (w : World) : (Instr.index 9 (.string s) (.int .i64 (k : Int))).run Tryz.prog w = .ok (.int .u8 (byt s k)) w := by
  rw [run_index_string w 9 s .i64 (k : Int) Tryz.underlying9, dif_pos (by omega)]
  simp only [byt, Int.toNat_natCast, get_bang s k h]
/-- WHAT A NAME IS. -/
def nmo (s : ByteArray) : Bool := decide (1 ≤ s.size ∧ s.size ≤ 12) && (List.range s.size).all fun k => decide (97 ≤ byt s k ∧ byt s k ≤ 122)
theorem nmo_bad (s : ByteArray) (k : Nat) (hk : k < s.size) (h : ¬ (97 ≤ byt s k ∧ byt s k ≤ 122)) : nmo s = false := by
  unfold nmo
  rw [Bool.and_eq_false_iff]
  right
  rw [List.all_eq_false]
  exact ⟨k, by simpa using hk, by simpa using h⟩
theorem nmo_good (s : ByteArray) (h : ∀ j, j < s.size → 97 ≤ byt s j ∧ byt s j ≤ 122) : nmo s = decide (1 ≤ s.size ∧ s.size ≤ 12) := by
  unfold nmo
  rw [show ((List.range s.size).all fun k => decide (97 ≤ byt s k ∧ byt s k ≤ 122)) = true from List.all_eq_true.2 (fun k hk => by simpa using h k (by simpa using hk)), Bool.and_true]

set_option maxHeartbeats 1000000 in
theorem l4NameOk_any (s : ByteArray) (w : World) (hs : s.size ≤ 1048576) :
    Calls Tryz.prog 199 #[.string s] w fun e w' => e = .returned (.bool (nmo s)) ∧ w = w' := by
  obtain ⟨N, hN⟩ : ∃ N, N = s.size := ⟨_, rfl⟩
  go_enter Tryz.func199, Tryz.ntmps199
  go_wp2_with fail
  go_loop [3] (fun i => ∃ k : Nat, k ≤ s.size ∧ i = .int .i64 k ∧ Hid (∀ j, j < k → 97 ≤ byt s j ∧ byt s j ≤ 122)) (fun i => s.size - (intOf i).toNat)
  case atStart => exact ⟨0, Nat.zero_le _, rfl, hide (fun j hj => by omega)⟩
  case round =>
    obtain ⟨k, hk, rfl, HJ⟩ := hrel
    by_cases hlt : k < s.size
    · have hlt' : (k : Int) < (s.size : Int) := by omega
      have hix := str_index s k hlt
      obtain ⟨z0, z1⟩ := byt_range s k
      have HZ := hide (nmo_bad s k hlt)
      have HG := hide (show 97 ≤ byt s k ∧ byt s k ≤ 122 → ∀ j, j < k + 1 → 97 ≤ byt s j ∧ byt s j ≤ 122 from fun h j hj => by
        by_cases e : j = k
        · subst e; exact h
        · exact HJ.out j (by omega))
      generalize byt s k = z at *
      by_cases c1 : z < 97
      · have c1' : (z < 97) = True := by simp [c1]
        go_wp2
        go_ret
        exact ⟨ret_bool (HZ.out (by omega)).symm, rfl⟩
      · by_cases c2 : 122 < z
        · go_wp2
          go_ret
          exact ⟨ret_bool (HZ.out (by omega)).symm, rfl⟩
        · go_wp2
          go_round
          case rel => exact ⟨k + 1, by omega, by go_num, hide (HG.out (by omega))⟩
          case measure => simp [intOf]; omega
    · have e : Hid (k = s.size) := by show k = s.size; omega
      have HE := hide (nmo_good s (fun j hj => HJ.out j (by rw [e.out]; exact hj)))
      by_cases c1 : 1 ≤ s.size
      · by_cases c2 : s.size ≤ 12
        · go_wp2
          go_ret
          exact ⟨ret_bool (by have := e.out; rw [HE.out, Bool.eq_iff_iff]; simp; omega), rfl⟩
        · go_wp2
          go_ret
          exact ⟨ret_bool (by have := e.out; rw [HE.out, Bool.eq_iff_iff]; simp; omega), rfl⟩
      · go_wp2
        go_ret
        exact ⟨ret_bool (by have := e.out; rw [HE.out, Bool.eq_iff_iff]; simp; omega), rfl⟩

set_option maxHeartbeats 1000000 in
theorem isName_any (s : ByteArray) (w : World) (hs : s.size ≤ 1048576) :
    Calls Tryz.prog 205 #[.string s] w fun e w' => e = .returned (.bool (nmo s)) ∧ w = w' := by
  by_cases c1 : s.size < 1
  · have HF : Hid (nmo s = false) := by show _ = _; unfold nmo; rw [Bool.and_eq_false_iff]; left; simp; omega
    have c1' : (s.size : Int) < 1 := by omega
    go_enter Tryz.func205, Tryz.ntmps205
    go_wp2
    go_ret
    exact ⟨ret_bool HF.out.symm, rfl⟩
  · by_cases c2 : 12 < s.size
    · have HF : Hid (nmo s = false) := by show _ = _; unfold nmo; rw [Bool.and_eq_false_iff]; left; simp; omega
      have c1' : ¬ (s.size : Int) < 1 := by omega
      have c2' : (12 : Int) < (s.size : Int) := by omega
      go_enter Tryz.func205, Tryz.ntmps205
      go_wp2
      go_ret
      exact ⟨ret_bool HF.out.symm, rfl⟩
    · have c1' : ¬ (s.size : Int) < 1 := by omega
      have c2' : ¬ (12 : Int) < (s.size : Int) := by omega
      go_enter Tryz.func205, Tryz.ntmps205
      go_wp2_with fail
      go_loop [14] (fun i => ∃ k : Nat, k ≤ s.size ∧ i = .int .i64 k ∧ Hid (∀ j, j < k → 97 ≤ byt s j ∧ byt s j ≤ 122)) (fun i => s.size - (intOf i).toNat)
      case atStart => exact ⟨0, Nat.zero_le _, rfl, hide (fun j hj => by omega)⟩
      case round =>
        obtain ⟨k, hk, rfl, HJ⟩ := hrel
        by_cases hlt : k < s.size
        · have hlt' : (k : Int) < (s.size : Int) := by omega
          have hix := str_index s k hlt
          obtain ⟨z0, z1⟩ := byt_range s k
          have HZ := hide (nmo_bad s k hlt)
          have HG := hide (show 97 ≤ byt s k ∧ byt s k ≤ 122 → ∀ j, j < k + 1 → 97 ≤ byt s j ∧ byt s j ≤ 122 from fun h j hj => by
            by_cases e : j = k
            · subst e; exact h
            · exact HJ.out j (by omega))
          generalize byt s k = z at *
          by_cases d1 : z < 97
          · go_wp2
            go_ret
            exact ⟨ret_bool (HZ.out (by omega)).symm, rfl⟩
          · by_cases d2 : 122 < z
            · go_wp2
              go_ret
              exact ⟨ret_bool (HZ.out (by omega)).symm, rfl⟩
            · go_wp2
              go_round
              case rel => exact ⟨k + 1, by omega, by go_num, hide (HG.out (by omega))⟩
              case measure => simp [intOf]; omega
        · have e : Hid (k = s.size) := by show k = s.size; omega
          have HE := hide (nmo_good s (fun j hj => HJ.out j (by rw [e.out]; exact hj)))
          go_wp2
          go_ret
          exact ⟨ret_bool (by have := e.out; rw [HE.out, Bool.eq_iff_iff]; simp; omega), rfl⟩
end Go.Proofs.YtngdgogjlpjjpadGreat

namespace Go.Proofs.YtngdgogjlpjjpadGreat
open Go.RowKit
set_option linter.unusedVariables false
set_option linter.unusedSimpArgs false
set_option maxRecDepth 100000

/-- THE PLACE OF THE FIRST POINT, from k on, with f places left; -1 where there is none. -/
def dotFrom (s : ByteArray) : Nat → Nat → Int
  | 0, _ => -1
  | f + 1, k => if byt s k = 46 then (k : Int) else dotFrom s f (k + 1)
def dot (s : ByteArray) : Int := dotFrom s s.size 0

set_option maxHeartbeats 1000000 in
theorem l4Dot_any (s : ByteArray) (w : World) (hs : s.size ≤ 1048576) :
    Calls Tryz.prog 204 #[.string s] w fun e w' => e = .returned (.int .i64 (dot s)) ∧ w = w' := by
  go_enter Tryz.func204, Tryz.ntmps204
  go_wp2_with fail
  go_loop [3] (fun i => ∃ k : Nat, k ≤ s.size ∧ i = .int .i64 k ∧ Hid (dot s = dotFrom s (s.size - k) k)) (fun i => s.size - (intOf i).toNat)
  case atStart => exact ⟨0, Nat.zero_le _, rfl, hide rfl⟩
  case round =>
    obtain ⟨k, hk, rfl, HJ⟩ := hrel
    by_cases hlt : k < s.size
    · have hlt' : (k : Int) < (s.size : Int) := by omega
      have hix := str_index s k hlt
      obtain ⟨z0, z1⟩ := byt_range s k
      have HD := hide (show dot s = if byt s k = 46 then (k : Int) else dotFrom s (s.size - (k + 1)) (k + 1) from by
        rw [HJ.out, show s.size - k = (s.size - (k + 1)) + 1 by omega]; rfl)
      clear HJ
      generalize byt s k = z at *
      by_cases c1 : z = 46
      · have HE := hide (show dot s = (k : Int) from by rw [HD.out, if_pos c1])
        subst c1
        go_wp2
        go_ret
        exact ⟨ret_int HE.out.symm, rfl⟩
      · have HE := hide (show dot s = dotFrom s (s.size - (k + 1)) (k + 1) from by rw [HD.out, if_neg c1])
        have c1' : (z == 46) = false := by simpa using c1
        go_wp2
        go_round
        case rel => exact ⟨k + 1, by omega, by go_num, HE⟩
        case measure => simp [intOf]; omega
    · have e : Hid (dot s = -1) := by
        show dot s = -1
        rw [HJ.out, show s.size - k = 0 by omega]; rfl
      go_wp2
      go_ret
      exact ⟨ret_int e.out.symm, rfl⟩
end Go.Proofs.YtngdgogjlpjjpadGreat

namespace Go.Proofs.YtngdgogjlpjjpadGreat
open Go.RowKit
set_option linter.unusedVariables false
set_option linter.unusedSimpArgs false
set_option maxRecDepth 100000

theorem dotFrom_range (s : ByteArray) : ∀ (f k : Nat), dotFrom s f k = -1 ∨ ((k : Int) ≤ dotFrom s f k ∧ dotFrom s f k < k + f)
  | 0, k => Or.inl rfl
  | f + 1, k => by
    unfold dotFrom
    split
    · right; omega
    · rcases dotFrom_range s f (k + 1) with h | h
      · left; exact h
      · right; omega
theorem dot_range (s : ByteArray) : dot s = -1 ∨ (0 ≤ dot s ∧ dot s < s.size) := by
  have := dotFrom_range s s.size 0
  unfold dot
  omega
/-- the two parts of an import -/
def cutA (s : ByteArray) : ByteArray := s.extract 0 (dot s).toNat
def cutB (s : ByteArray) : ByteArray := s.extract (dot s + 1).toNat s.size
theorem cutA_size (s : ByteArray) (hs : s.size ≤ 1048576) : (cutA s).size ≤ 1048576 := by
  unfold cutA
  rw [ByteArray.size_extract]
  omega
theorem cutB_size (s : ByteArray) (hs : s.size ≤ 1048576) : (cutB s).size ≤ 1048576 := by
  unfold cutB
  rw [ByteArray.size_extract]
  omega
/-- WHAT AN IMPORT IS. -/
def full (s : ByteArray) : Bool := decide (0 ≤ dot s) && (nmo (cutA s) && nmo (cutB s))

set_option maxHeartbeats 1000000 in
theorem l4FullOk_any (s : ByteArray) (w : World) (hs : s.size ≤ 1048576) :
    Calls Tryz.prog 202 #[.string s] w fun e w' => e = .returned (.bool (full s)) ∧ w = w' := by
  have HD := hide (fun w => l4Dot_any s w hs)
  have HA := hide (fun w => l4NameOk_any (cutA s) w (cutA_size s hs))
  have HB := hide (fun w => l4NameOk_any (cutB s) w (cutB_size s hs))
  obtain ⟨r, hr⟩ : ∃ r, r = full s := ⟨_, rfl⟩
  rw [← hr]
  unfold full at hr
  unfold cutA cutB at *
  rcases dot_range s with h | ⟨h0, h1⟩
  · rw [h] at HD hr
    have HR := hide (show r = false from by rw [hr]; rfl)
    clear HA HB hr h
    go_enter Tryz.func202, Tryz.ntmps202
    go_wp2_with (go_at_call 204; refine (HD.out _).mono ?_; rintro e w1 ⟨rfl, rfl⟩)
    go_ret
    exact ⟨ret_bool HR.out.symm, rfl⟩
  · generalize dot s = p at *
    generalize nmo (s.extract 0 p.toNat) = A at *
    generalize nmo (s.extract (p + 1).toNat s.size) = B at *
    have HR := hide (show r = (A && B) from by rw [hr]; simp [h0])
    clear hr
    cases A
    · go_enter Tryz.func202, Tryz.ntmps202
      go_wp2_with (first
        | (go_at_call 204; refine (HD.out _).mono ?_; rintro e w1 ⟨rfl, rfl⟩)
        | (go_at_call 199; refine (HA.out _).mono ?_; rintro e w1 ⟨rfl, rfl⟩))
      go_ret
      exact ⟨ret_bool HR.out.symm, rfl⟩
    · go_enter Tryz.func202, Tryz.ntmps202
      go_wp2_with fail
      refine (HD.out _).mono ?_
      rintro e w1 ⟨rfl, rfl⟩
      go_wp2_with fail
      refine (HA.out _).mono ?_
      rintro e w1 ⟨rfl, rfl⟩
      go_wp2_with fail
      refine (HB.out _).mono ?_
      rintro e w1 ⟨rfl, rfl⟩
      go_wp2
      go_ret
      exact ⟨ret_bool HR.out.symm, rfl⟩
end Go.Proofs.YtngdgogjlpjjpadGreat

namespace Go.Proofs.YtngdgogjlpjjpadGreat
open Go.RowKit
set_option linter.unusedVariables false
set_option linter.unusedSimpArgs false
set_option maxRecDepth 100000

theorem idx_dot (l : List UInt8) : ∀ (s : ByteArray) (k : Nat), s.data.toList.drop k = l → Lib.indexByte l (46 : Int).toNat.toUInt8 = (let d := dotFrom s l.length k; if d = -1 then -1 else d - k) := by
  induction l with
  | nil => intro s k h; rfl
  | cons b l ih =>
    intro s k h
    have hk : k < s.data.toList.length := by
      by_cases e : k < s.data.toList.length
      · exact e
      · rw [List.drop_eq_nil_of_le (by omega)] at h; cases h
    have hks : k < s.size := by simpa using hk
    have hb : s.data.toList[k]'hk = b := by
      have h2 : s.data.toList[k]? = some b := by
        have := congrArg (fun t => t[0]?) h
        simpa using this
      rw [List.getElem?_eq_getElem hk] at h2
      injection h2
    have hd : s.data.toList.drop (k + 1) = l := by
      have := congrArg List.tail h
      simpa using this
    have hbyt : byt s k = (b.toNat : Int) := by
      unfold byt
      rw [get_bang s k hks, ← hb]
      rfl
    have ih' := ih s (k + 1) hd
    simp only [Lib.indexByte, List.length_cons, dotFrom, hbyt]
    rw [ih']
    have e46 : (46 : Int).toNat.toUInt8 = 46 := rfl
    rw [e46]
    by_cases c : b = 46
    · subst c
      simp
    · have c1 : (b == 46) = false := by simpa using c
      have c2 : ¬ ((b.toNat : Int) = 46) := fun e => c (UInt8.toNat_inj.1 (by simpa using (by omega : b.toNat = 46)))
      rw [c1, if_neg c2]
      rcases dotFrom_range s l.length (k + 1) with e | e
      · simp [e]
      · have n1 : ¬ dotFrom s l.length (k + 1) = -1 := by omega
        simp only [n1, if_false, Bool.false_eq_true]
        split
        · next h => simp at h; omega
        · omega
theorem idx_dot' (s : ByteArray) : Lib.indexByte s.data.toList (46 : Int).toNat.toUInt8 = dot s := by
  have := idx_dot s.data.toList s 0 (by simp)
  rw [this]
  have e : s.data.toList.length = s.size := Array.length_toList
  unfold dot
  rw [e]
  rcases dotFrom_range s s.size 0 with h | h
  · simp [h]
  · simp only [if_neg (show ¬ dotFrom s s.size 0 = -1 by omega)]
    omega

set_option maxHeartbeats 1000000 in
theorem indexByte_any (s : ByteArray) (w : World) :
    Calls Tryz.prog 288 #[.string s, .int .u8 46] w fun e w' => e = .returned (.int .i64 (dot s)) ∧ w = w' := by
  have HD := hide (idx_dot' s)
  go_enter Tryz.func288, Tryz.ntmps288
  go_wp2
  rw [run_callFunc_extern Tryz.func294 (by kernel_rfl) (by kernel_rfl) (by kernel_rfl) (e := Extern.BytealgIndexByte.indexByte) (by kernel_rfl), Lib.run_indexByteString]
  simp only [Result.andThen]
  rw [Oper.upon_value]
  go_wp2
  go_ret
  exact ⟨ret_int HD.out, rfl⟩

set_option maxHeartbeats 1000000 in
theorem index_dot (s : ByteArray) (w : World) (hs : s.size ≤ 1048576) :
    Calls Tryz.prog 283 #[.string s, .string ⟨#[46]⟩] w fun e w' => e = .returned (.int .i64 (dot s)) ∧ w = w' := by
  have HI := hide (fun w => indexByte_any s w)
  by_cases he : (⟨#[46]⟩ : ByteArray) = s
  · subst he
    have HD : Hid (dot ⟨#[46]⟩ = 0) := by show _ = _; rfl
    clear HI
    go_enter Tryz.func283, Tryz.ntmps283
    go_wp2
    go_ret
    exact ⟨ret_int HD.out.symm, rfl⟩
  · have hne : ¬ ([46] : List UInt8) = s.toList := fun e => he (Go.WideShapes.bytes_inj (by rw [ByteArray.toList_eq] at e; exact e))
    have he' : (([46] : List UInt8) == s.toList) = false := by simpa using hne
    have he2 : ((⟨#[46]⟩ : ByteArray).toList == s.toList) = false := by rw [ByteArray.toList_eq]; exact he'
    have h46 : ∀ w : World, (Instr.index 9 (.string ⟨#[46]⟩) (.int .i64 0)).run Tryz.prog w = .ok (.int .u8 46) w := fun w => by kernel_rfl
    go_enter Tryz.func283, Tryz.ntmps283
    go_wp2_with (go_at_call 288; refine (HI.out _).mono ?_; rintro e w1 ⟨rfl, rfl⟩)
    go_ret
    exact ⟨rfl, rfl⟩

set_option maxHeartbeats 1000000 in
theorem slCut_any (s : ByteArray) (w : World) (hs : s.size ≤ 1048576) :
    Calls Tryz.prog 277 #[.string s, .string ⟨#[46]⟩] w fun e w' => e = .returned (.tuple #[.string (if 0 ≤ dot s then cutA s else s), .string (if 0 ≤ dot s then cutB s else ⟨#[]⟩), .bool (decide (0 ≤ dot s))]) ∧ Below w.heap.size w w' := by
  have HI := hide (fun w => index_dot s w hs)
  have HB := hide (Below.refl w.heap.size w)
  rcases dot_range s with h | ⟨h0, h1⟩
  · have hn : ¬ (0 ≤ dot s) := by omega
    rw [if_neg hn, if_neg hn, decide_eq_false hn]
    rw [h] at HI
    clear h hn
    go_enter Tryz.func277, Tryz.ntmps277
    go_wp2_with (go_at_call 283; refine (HI.out _).mono ?_; rintro e w1 ⟨rfl, rfl⟩)
    all_goals (try go_region)
    all_goals (try go_wp2)
    all_goals go_ret3
    all_goals exact ⟨rfl, by first | exact HB.out | exact HB.out.drew⟩
  · rw [if_pos h0, if_pos h0, decide_eq_true h0]
    unfold cutA cutB
    generalize dot s = p at *
    go_enter Tryz.func277, Tryz.ntmps277
    go_wp2_with (go_at_call 283; refine (HI.out _).mono ?_; rintro e w1 ⟨rfl, rfl⟩)
    all_goals (try go_region)
    all_goals (try go_wp2)
    all_goals go_ret3
    all_goals exact ⟨rfl, by first | exact HB.out | exact HB.out.drew⟩
end Go.Proofs.YtngdgogjlpjjpadGreat
