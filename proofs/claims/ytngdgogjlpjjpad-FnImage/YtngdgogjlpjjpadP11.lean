import Derived.Lib.Bytealg
import Derived.WideShapes
import Derived.Test.YtngdgogjlpjjpadP00
import Derived.Test.YtngdgogjlpjjpadP02
import Derived.Test.YtngdgogjlpjjpadP03
import Derived.Test.YtngdgogjlpjjpadP05
namespace Go.Proofs.Ytngdgogjlpjjpad
open Go.RowKit
set_option linter.unusedVariables false
set_option linter.unusedSimpArgs false
set_option maxRecDepth 100000
def byt (s : ByteArray) (k : Nat) : Int := ((s.get! k).toNat : Int)
theorem byt_range (s : ByteArray) (k : Nat) : 0 ≤ byt s k ∧ byt s k ≤ 255 := by
  unfold byt
  have := (s.get! k).toNat_lt
  omega
theorem get_bang (s : ByteArray) (k : Nat) (h : k < s.size) : s.get! k = s[k]'h := by
  simp only [ByteArray.get!, getElem!_def]
  have : s.data[k]? = some (s.data[k]'h) := Array.getElem?_eq_getElem h
  rw [this]
  rfl
theorem str_index (s : ByteArray) (k : Nat) (h : k < s.size) (w : World) : (Instr.index 9 (.string s) (.int .i64 (k : Int))).run Try.prog w = .ok (.int .u8 (byt s k)) w := by
  rw [run_index_string w 9 s .i64 (k : Int) Try.underlying9, dif_pos (by omega)]
  simp only [byt, Int.toNat_natCast, get_bang s k h]
def nmo (s : ByteArray) : Bool := decide (1 ≤ s.size ∧ s.size ≤ 12) && (List.range s.size).all fun k => decide (97 ≤ byt s k ∧ byt s k ≤ 122)
theorem nmo_bad (s : ByteArray) (k : Nat) (hk : k < s.size) (h : ¬ (97 ≤ byt s k ∧ byt s k ≤ 122)) : nmo s = false := by
  unfold nmo
  rw [Bool.and_eq_false_iff]
  right
  rw [List.all_eq_false]
  exact ⟨k, by simpa using hk, by simpa using h⟩
theorem nmo_good (s : ByteArray) (h : ∀ j, j < s.size → 97 ≤ byt s j ∧ byt s j ≤ 122) : nmo s = decide (1 ≤ s.size ∧ s.size ≤ 12) := by
  unfold nmo
  rw [show ((List.range s.size).all fun k => decide (97 ≤ byt s k ∧ byt s k ≤ 122)) = true from List.all_eq_true.2 (fun k hk => by simpa using h k (by simpa using hk)), Bool.and_true]
set_option maxHeartbeats 1000000 in
theorem l4NameOk_any (s : ByteArray) (w : World) (hs : s.size ≤ 1048576) :
    Calls Try.prog 63 #[.string s] w fun e w' => e = .returned (.bool (nmo s)) ∧ w = w' := by
  obtain ⟨N, hN⟩ : ∃ N, N = s.size := ⟨_, rfl⟩
  go_enter Try.func63, Try.ntmps63
  go_wp2_with fail
  go_loop [3] (fun i => ∃ k : Nat, k ≤ s.size ∧ i = .int .i64 k ∧ Hid (∀ j, j < k → 97 ≤ byt s j ∧ byt s j ≤ 122)) (fun i => s.size - (intOf i).toNat)
  case atStart => exact ⟨0, Nat.zero_le _, rfl, hide (fun j hj => by omega)⟩
  case round =>
    obtain ⟨k, hk, rfl, HJ⟩ := hrel
    by_cases hlt : k < s.size
    · have hlt' : (k : Int) < (s.size : Int) := by omega
      have hix := str_index s k hlt
      obtain ⟨z0, z1⟩ := byt_range s k
      have HZ := hide (nmo_bad s k hlt)
      have HG := hide (show 97 ≤ byt s k ∧ byt s k ≤ 122 → ∀ j, j < k + 1 → 97 ≤ byt s j ∧ byt s j ≤ 122 from fun h j hj => by
        by_cases e : j = k
        · subst e; exact h
        · exact HJ.out j (by omega))
      generalize byt s k = z at *
      by_cases c1 : z < 97
      · have c1' : (z < 97) = True := by simp [c1]
        go_wp2
        go_ret
        exact ⟨ret_bool (HZ.out (by omega)).symm, rfl⟩
      · by_cases c2 : 122 < z
        · go_wp2
          go_ret
          exact ⟨ret_bool (HZ.out (by omega)).symm, rfl⟩
        · go_wp2
          go_round
          case rel => exact ⟨k + 1, by omega, by go_num, hide (HG.out (by omega))⟩
          case measure => simp [intOf]; omega
    · have e : Hid (k = s.size) := by show k = s.size; omega
      have HE := hide (nmo_good s (fun j hj => HJ.out j (by rw [e.out]; exact hj)))
      by_cases c1 : 1 ≤ s.size
      · by_cases c2 : s.size ≤ 12
        · go_wp2
          go_ret
          exact ⟨ret_bool (by have := e.out; rw [HE.out, Bool.eq_iff_iff]; simp; omega), rfl⟩
        · go_wp2
          go_ret
          exact ⟨ret_bool (by have := e.out; rw [HE.out, Bool.eq_iff_iff]; simp; omega), rfl⟩
      · go_wp2
        go_ret
        exact ⟨ret_bool (by have := e.out; rw [HE.out, Bool.eq_iff_iff]; simp; omega), rfl⟩
set_option maxHeartbeats 1000000 in
theorem isName_any (s : ByteArray) (w : World) (hs : s.size ≤ 1048576) :
    Calls Try.prog 32 #[.string s] w fun e w' => e = .returned (.bool (nmo s)) ∧ w = w' := by
  by_cases c1 : s.size < 1
  · have HF : Hid (nmo s = false) := by show _ = _; unfold nmo; rw [Bool.and_eq_false_iff]; left; simp; omega
    have c1' : (s.size : Int) < 1 := by omega
    go_enter Try.func32, Try.ntmps32
    go_wp2
    go_ret
    exact ⟨ret_bool HF.out.symm, rfl⟩
  · by_cases c2 : 12 < s.size
    · have HF : Hid (nmo s = false) := by show _ = _; unfold nmo; rw [Bool.and_eq_false_iff]; left; simp; omega
      have c1' : ¬ (s.size : Int) < 1 := by omega
      have c2' : (12 : Int) < (s.size : Int) := by omega
      go_enter Try.func32, Try.ntmps32
      go_wp2
      go_ret
      exact ⟨ret_bool HF.out.symm, rfl⟩
    · have c1' : ¬ (s.size : Int) < 1 := by omega
      have c2' : ¬ (12 : Int) < (s.size : Int) := by omega
      go_enter Try.func32, Try.ntmps32
      go_wp2_with fail
      go_loop [14] (fun i => ∃ k : Nat, k ≤ s.size ∧ i = .int .i64 k ∧ Hid (∀ j, j < k → 97 ≤ byt s j ∧ byt s j ≤ 122)) (fun i => s.size - (intOf i).toNat)
      case atStart => exact ⟨0, Nat.zero_le _, rfl, hide (fun j hj => by omega)⟩
      case round =>
        obtain ⟨k, hk, rfl, HJ⟩ := hrel
        by_cases hlt : k < s.size
        · have hlt' : (k : Int) < (s.size : Int) := by omega
          have hix := str_index s k hlt
          obtain ⟨z0, z1⟩ := byt_range s k
          have HZ := hide (nmo_bad s k hlt)
          have HG := hide (show 97 ≤ byt s k ∧ byt s k ≤ 122 → ∀ j, j < k + 1 → 97 ≤ byt s j ∧ byt s j ≤ 122 from fun h j hj => by
            by_cases e : j = k
            · subst e; exact h
            · exact HJ.out j (by omega))
          generalize byt s k = z at *
          by_cases d1 : z < 97
          · go_wp2
            go_ret
            exact ⟨ret_bool (HZ.out (by omega)).symm, rfl⟩
          · by_cases d2 : 122 < z
            · go_wp2
              go_ret
              exact ⟨ret_bool (HZ.out (by omega)).symm, rfl⟩
            · go_wp2
              go_round
              case rel => exact ⟨k + 1, by omega, by go_num, hide (HG.out (by omega))⟩
              case measure => simp [intOf]; omega
        · have e : Hid (k = s.size) := by show k = s.size; omega
          have HE := hide (nmo_good s (fun j hj => HJ.out j (by rw [e.out]; exact hj)))
          go_wp2
          go_ret
          exact ⟨ret_bool (by have := e.out; rw [HE.out, Bool.eq_iff_iff]; simp; omega), rfl⟩
def dotFrom (s : ByteArray) : Nat → Nat → Int
  | 0, _ => -1
  | f + 1, k => if byt s k = 46 then (k : Int) else dotFrom s f (k + 1)
def dot (s : ByteArray) : Int := dotFrom s s.size 0
set_option maxHeartbeats 1000000 in
theorem l4Dot_any (s : ByteArray) (w : World) (hs : s.size ≤ 1048576) :
    Calls Try.prog 95 #[.string s] w fun e w' => e = .returned (.int .i64 (dot s)) ∧ w = w' := by
  go_enter Try.func95, Try.ntmps95
  go_wp2_with fail
  go_loop [3] (fun i => ∃ k : Nat, k ≤ s.size ∧ i = .int .i64 k ∧ Hid (dot s = dotFrom s (s.size - k) k)) (fun i => s.size - (intOf i).toNat)
  case atStart => exact ⟨0, Nat.zero_le _, rfl, hide rfl⟩
  case round =>
    obtain ⟨k, hk, rfl, HJ⟩ := hrel
    by_cases hlt : k < s.size
    · have hlt' : (k : Int) < (s.size : Int) := by omega
      have hix := str_index s k hlt
      obtain ⟨z0, z1⟩ := byt_range s k
      have HD := hide (show dot s = if byt s k = 46 then (k : Int) else dotFrom s (s.size - (k + 1)) (k + 1) from by
        rw [HJ.out, show s.size - k = (s.size - (k + 1)) + 1 by omega]; rfl)
      clear HJ
      generalize byt s k = z at *
      by_cases c1 : z = 46
      · have HE := hide (show dot s = (k : Int) from by rw [HD.out, if_pos c1])
        subst c1
        go_wp2
        go_ret
        exact ⟨ret_int HE.out.symm, rfl⟩
      · have HE := hide (show dot s = dotFrom s (s.size - (k + 1)) (k + 1) from by rw [HD.out, if_neg c1])
        have c1' : (z == 46) = false := by simpa using c1
        go_wp2
        go_round
        case rel => exact ⟨k + 1, by omega, by go_num, HE⟩
        case measure => simp [intOf]; omega
    · have e : Hid (dot s = -1) := by
        show dot s = -1
        rw [HJ.out, show s.size - k = 0 by omega]; rfl
      go_wp2
      go_ret
      exact ⟨ret_int e.out.symm, rfl⟩
theorem dotFrom_range (s : ByteArray) : ∀ (f k : Nat), dotFrom s f k = -1 ∨ ((k : Int) ≤ dotFrom s f k ∧ dotFrom s f k < k + f)
  | 0, k => Or.inl rfl
  | f + 1, k => by
    unfold dotFrom
    split
    · right; omega
    · rcases dotFrom_range s f (k + 1) with h | h
      · left; exact h
      · right; omega
theorem dot_range (s : ByteArray) : dot s = -1 ∨ (0 ≤ dot s ∧ dot s < s.size) := by
  have := dotFrom_range s s.size 0
  unfold dot
  omega
def cutA (s : ByteArray) : ByteArray := s.extract 0 (dot s).toNat
def cutB (s : ByteArray) : ByteArray := s.extract (dot s + 1).toNat s.size
theorem cutA_size (s : ByteArray) (hs : s.size ≤ 1048576) : (cutA s).size ≤ 1048576 := by
  unfold cutA
  rw [ByteArray.size_extract]
  omega
theorem cutB_size (s : ByteArray) (hs : s.size ≤ 1048576) : (cutB s).size ≤ 1048576 := by
  unfold cutB
  rw [ByteArray.size_extract]
  omega
def full (s : ByteArray) : Bool := decide (0 ≤ dot s) && (nmo (cutA s) && nmo (cutB s))
set_option maxHeartbeats 1000000 in
theorem l4FullOk_any (s : ByteArray) (w : World) (hs : s.size ≤ 1048576) :
    Calls Try.prog 66 #[.string s] w fun e w' => e = .returned (.bool (full s)) ∧ w = w' := by
  have HD := hide (fun w => l4Dot_any s w hs)
  have HA := hide (fun w => l4NameOk_any (cutA s) w (cutA_size s hs))
  have HB := hide (fun w => l4NameOk_any (cutB s) w (cutB_size s hs))
  obtain ⟨r, hr⟩ : ∃ r, r = full s := ⟨_, rfl⟩
  rw [← hr]
  unfold full at hr
  unfold cutA cutB at *
  rcases dot_range s with h | ⟨h0, h1⟩
  · rw [h] at HD hr
    have HR := hide (show r = false from by rw [hr]; rfl)
    clear HA HB hr h
    go_enter Try.func66, Try.ntmps66
    go_wp2_with (go_at_call 95; refine (HD.out _).mono ?_; rintro e w1 ⟨rfl, rfl⟩)
    go_ret
    exact ⟨ret_bool HR.out.symm, rfl⟩
  · generalize dot s = p at *
    generalize nmo (s.extract 0 p.toNat) = A at *
    generalize nmo (s.extract (p + 1).toNat s.size) = B at *
    have HR := hide (show r = (A && B) from by rw [hr]; simp [h0])
    clear hr
    cases A
    · go_enter Try.func66, Try.ntmps66
      go_wp2_with (first
        | (go_at_call 95; refine (HD.out _).mono ?_; rintro e w1 ⟨rfl, rfl⟩)
        | (go_at_call 63; refine (HA.out _).mono ?_; rintro e w1 ⟨rfl, rfl⟩))
      go_ret
      exact ⟨ret_bool HR.out.symm, rfl⟩
    · go_enter Try.func66, Try.ntmps66
      go_wp2_with fail
      refine (HD.out _).mono ?_
      rintro e w1 ⟨rfl, rfl⟩
      go_wp2_with fail
      refine (HA.out _).mono ?_
      rintro e w1 ⟨rfl, rfl⟩
      go_wp2_with fail
      refine (HB.out _).mono ?_
      rintro e w1 ⟨rfl, rfl⟩
      go_wp2
      go_ret
      exact ⟨ret_bool HR.out.symm, rfl⟩
theorem idx_dot (l : List UInt8) : ∀ (s : ByteArray) (k : Nat), s.data.toList.drop k = l → Lib.indexByte l (46 : Int).toNat.toUInt8 = (let d := dotFrom s l.length k; if d = -1 then -1 else d - k) := by
  induction l with
  | nil => intro s k h; rfl
  | cons b l ih =>
    intro s k h
    have hk : k < s.data.toList.length := by
      by_cases e : k < s.data.toList.length
      · exact e
      · rw [List.drop_eq_nil_of_le (by omega)] at h; cases h
    have hks : k < s.size := by simpa using hk
    have hb : s.data.toList[k]'hk = b := by
      have h2 : s.data.toList[k]? = some b := by
        have := congrArg (fun t => t[0]?) h
        simpa using this
      rw [List.getElem?_eq_getElem hk] at h2
      injection h2
    have hd : s.data.toList.drop (k + 1) = l := by
      have := congrArg List.tail h
      simpa using this
    have hbyt : byt s k = (b.toNat : Int) := by
      unfold byt
      rw [get_bang s k hks, ← hb]
      rfl
    have ih' := ih s (k + 1) hd
    simp only [Lib.indexByte, List.length_cons, dotFrom, hbyt]
    rw [ih']
    have e46 : (46 : Int).toNat.toUInt8 = 46 := rfl
    rw [e46]
    by_cases c : b = 46
    · subst c
      simp
    · have c1 : (b == 46) = false := by simpa using c
      have c2 : ¬ ((b.toNat : Int) = 46) := fun e => c (UInt8.toNat_inj.1 (by simpa using (by omega : b.toNat = 46)))
      rw [c1, if_neg c2]
      rcases dotFrom_range s l.length (k + 1) with e | e
      · simp [e]
      · have n1 : ¬ dotFrom s l.length (k + 1) = -1 := by omega
        simp only [n1, if_false, Bool.false_eq_true]
        split
        · next h => simp at h; omega
        · omega
theorem idx_dot' (s : ByteArray) : Lib.indexByte s.data.toList (46 : Int).toNat.toUInt8 = dot s := by
  have := idx_dot s.data.toList s 0 (by simp)
  rw [this]
  have e : s.data.toList.length = s.size := Array.length_toList
  unfold dot
  rw [e]
  rcases dotFrom_range s s.size 0 with h | h
  · simp [h]
  · simp only [if_neg (show ¬ dotFrom s s.size 0 = -1 by omega)]
    omega
set_option maxHeartbeats 1000000 in
theorem indexByte_any (s : ByteArray) (w : World) :
    Calls Try.prog 111 #[.string s, .int .u8 46] w fun e w' => e = .returned (.int .i64 (dot s)) ∧ w = w' := by
  have HD := hide (idx_dot' s)
  go_enter Try.func111, Try.ntmps111
  go_wp2
  rw [run_callFunc_extern Try.func117 (by kernel_rfl) (by kernel_rfl) (by kernel_rfl) (e := Extern.BytealgIndexByte.indexByte) (by kernel_rfl), Lib.run_indexByteString]
  simp only [Result.andThen]
  rw [Oper.upon_value]
  go_wp2
  go_ret
  exact ⟨ret_int HD.out, rfl⟩
set_option maxHeartbeats 1000000 in
theorem index_dot (s : ByteArray) (w : World) (hs : s.size ≤ 1048576) :
    Calls Try.prog 107 #[.string s, .string ⟨#[46]⟩] w fun e w' => e = .returned (.int .i64 (dot s)) ∧ w = w' := by
  have HI := hide (fun w => indexByte_any s w)
  by_cases he : (⟨#[46]⟩ : ByteArray) = s
  · subst he
    have HD : Hid (dot ⟨#[46]⟩ = 0) := by show _ = _; rfl
    clear HI
    go_enter Try.func107, Try.ntmps107
    go_wp2
    go_ret
    exact ⟨ret_int HD.out.symm, rfl⟩
  · have hne : ¬ ([46] : List UInt8) = s.toList := fun e => he (Go.WideShapes.bytes_inj (by rw [ByteArray.toList_eq] at e; exact e))
    have he' : (([46] : List UInt8) == s.toList) = false := by simpa using hne
    have he2 : ((⟨#[46]⟩ : ByteArray).toList == s.toList) = false := by rw [ByteArray.toList_eq]; exact he'
    have h46 : ∀ w : World, (Instr.index 9 (.string ⟨#[46]⟩) (.int .i64 0)).run Try.prog w = .ok (.int .u8 46) w := fun w => by kernel_rfl
    go_enter Try.func107, Try.ntmps107
    go_wp2_with (go_at_call 111; refine (HI.out _).mono ?_; rintro e w1 ⟨rfl, rfl⟩)
    go_ret
    exact ⟨rfl, rfl⟩
set_option maxHeartbeats 1000000 in
theorem slCut_any (s : ByteArray) (w : World) (hs : s.size ≤ 1048576) :
    Calls Try.prog 104 #[.string s, .string ⟨#[46]⟩] w fun e w' => e = .returned (.tuple #[.string (if 0 ≤ dot s then cutA s else s), .string (if 0 ≤ dot s then cutB s else ⟨#[]⟩), .bool (decide (0 ≤ dot s))]) ∧ Below w.heap.size w w' := by
  have HI := hide (fun w => index_dot s w hs)
  have HB := hide (Below.refl w.heap.size w)
  rcases dot_range s with h | ⟨h0, h1⟩
  · have hn : ¬ (0 ≤ dot s) := by omega
    rw [if_neg hn, if_neg hn, decide_eq_false hn]
    rw [h] at HI
    clear h hn
    go_enter Try.func104, Try.ntmps104
    go_wp2_with (go_at_call 107; refine (HI.out _).mono ?_; rintro e w1 ⟨rfl, rfl⟩)
    all_goals (try go_region)
    all_goals (try go_wp2)
    all_goals go_ret3
    all_goals exact ⟨rfl, by first | exact HB.out | exact HB.out.drew⟩
  · rw [if_pos h0, if_pos h0, decide_eq_true h0]
    unfold cutA cutB
    generalize dot s = p at *
    go_enter Try.func104, Try.ntmps104
    go_wp2_with (go_at_call 107; refine (HI.out _).mono ?_; rintro e w1 ⟨rfl, rfl⟩)
    all_goals (try go_region)
    all_goals (try go_wp2)
    all_goals go_ret3
    all_goals exact ⟨rfl, by first | exact HB.out | exact HB.out.drew⟩
set_option maxHeartbeats 1000000 in
theorem cut_any (s : ByteArray) (w : World) (hs : s.size ≤ 1048576) :
    Calls Try.prog 101 #[.string s, .string ⟨#[46]⟩] w fun e w' => e = .returned (.tuple #[.string (if 0 ≤ dot s then cutA s else s), .string (if 0 ≤ dot s then cutB s else ⟨#[]⟩), .bool (decide (0 ≤ dot s))]) ∧ Below w.heap.size w w' := by
  have HC := hide (fun w => slCut_any s w hs)
  generalize (if 0 ≤ dot s then cutA s else s) = A at *
  generalize (if 0 ≤ dot s then cutB s else ⟨#[]⟩) = B at *
  generalize decide (0 ≤ dot s) = C at *
  go_enter Try.func101, Try.ntmps101
  go_wp2_with (go_at_call 104; refine (HC.out _).mono ?_; rintro e w1 ⟨rfl, hb1⟩)
  go_ret3
  exact ⟨rfl, hb1⟩
theorem nmo_none : nmo ⟨#[]⟩ = false := rfl
def cutV (s : ByteArray) : Value := if full s then .tuple #[.string (cutA s), .string (cutB s), .bool true] else .tuple #[.string ⟨#[]⟩, .string ⟨#[]⟩, .bool false]
set_option maxHeartbeats 1000000 in
theorem cutImport_any (s : ByteArray) (w : World) (hs : s.size ≤ 1048576) :
    Calls Try.prog 83 #[.string s] w fun e w' => e = .returned (cutV s) ∧ Below w.heap.size w w' := by
  have HC := hide (fun w => cut_any s w hs)
  obtain ⟨V, hV⟩ : ∃ V, V = cutV s := ⟨_, rfl⟩
  rw [← hV]
  unfold cutV full at hV
  have hA : (if 0 ≤ dot s then cutA s else s).size ≤ 1048576 := by split; exact cutA_size s hs; exact hs
  have hB : (if 0 ≤ dot s then cutB s else ⟨#[]⟩).size ≤ 1048576 := by split; exact cutB_size s hs; exact (by decide)
  have HA := hide (fun w => isName_any _ w hA)
  have HB := hide (fun w => isName_any _ w hB)
  have hV' : V = if nmo (if 0 ≤ dot s then cutA s else s) && nmo (if 0 ≤ dot s then cutB s else ⟨#[]⟩) then .tuple #[.string (if 0 ≤ dot s then cutA s else s), .string (if 0 ≤ dot s then cutB s else ⟨#[]⟩), .bool true] else .tuple #[.string ⟨#[]⟩, .string ⟨#[]⟩, .bool false] := by
    by_cases h : 0 ≤ dot s
    · simp only [h, if_true, decide_true, Bool.true_and] at hV ⊢
      exact hV
    · simp only [h, if_false, decide_false, Bool.false_and, nmo_none, Bool.and_false] at hV ⊢
      exact hV
  clear hV hA hB
  generalize (if 0 ≤ dot s then cutA s else s) = A at *
  generalize (if 0 ≤ dot s then cutB s else ⟨#[]⟩) = B at *
  generalize decide (0 ≤ dot s) = C at *
  generalize nmo A = a at *
  generalize nmo B = b at *
  have HV := hide hV'
  clear hV'
  cases a
  · obtain rfl : V = .tuple #[.string ⟨#[]⟩, .string ⟨#[]⟩, .bool false] := HV.out
    go_enter Try.func83, Try.ntmps83
    go_wp2_with fail
    refine (HC.out _).mono ?_
    rintro e w1 ⟨rfl, hb1⟩
    go_wp2_with fail
    refine (HA.out _).mono ?_
    rintro e w2 ⟨rfl, rfl⟩
    go_wp2
    go_ret3
    exact ⟨rfl, hb1⟩
  · cases b
    · obtain rfl : V = .tuple #[.string ⟨#[]⟩, .string ⟨#[]⟩, .bool false] := HV.out
      go_enter Try.func83, Try.ntmps83
      go_wp2_with fail
      refine (HC.out _).mono ?_
      rintro e w1 ⟨rfl, hb1⟩
      go_wp2_with fail
      refine (HA.out _).mono ?_
      rintro e w2 ⟨rfl, rfl⟩
      go_wp2_with fail
      refine (HB.out _).mono ?_
      rintro e w2 ⟨rfl, rfl⟩
      go_wp2
      go_ret3
      exact ⟨rfl, hb1⟩
    · obtain rfl : V = .tuple #[.string A, .string B, .bool true] := HV.out
      go_enter Try.func83, Try.ntmps83
      go_wp2_with fail
      refine (HC.out _).mono ?_
      rintro e w1 ⟨rfl, hb1⟩
      go_wp2_with fail
      refine (HA.out _).mono ?_
      rintro e w2 ⟨rfl, rfl⟩
      go_wp2_with fail
      refine (HB.out _).mono ?_
      rintro e w2 ⟨rfl, rfl⟩
      go_wp2
      go_ret3
      exact ⟨rfl, hb1⟩
end Go.Proofs.Ytngdgogjlpjjpad
namespace Go.Proofs.Ytngdgogjlpjjpad
open Go.RowKit
set_option linter.unusedVariables false
set_option maxRecDepth 100000
theorem IS.at {w : World} {b off n cap : Nat} {zs : List Int} (h : IS w (Option.some ⟨b, off, none⟩) n cap zs) (i : Nat) (hi : i < n) : w.cell? ⟨b, off + i, none⟩ = Option.some (.int .i64 (zs.getD i 0)) := by
  obtain ⟨b', off', e, hd⟩ := h.2.2.2.1 (by omega)
  simp at e
  obtain ⟨rfl, rfl⟩ := e
  exact hd i hi
theorem IS.addr {w : World} {a : Option Addr} {n cap : Nat} {zs : List Int} (h : IS w a n cap zs) (hn : n ≠ 0) : ∃ b off, a = some ⟨b, off, none⟩ := by
  obtain ⟨b, off, e, _⟩ := h.2.2.2.1 hn
  exact ⟨b, off, e⟩
def OI (w : World) (base : Nat) (v : Value) (zs : List Int) : Prop := w.ownsRow base 3 1 v zs.length (zs.map (Value.int .i64)) ∧ ∀ z ∈ zs, wfi z
theorem OI.below {w w' : World} {base : Nat} {v : Value} {zs : List Int} (h : OI w base v zs) (hb : Below w.heap.size w w') : OI w' base v zs := by
  refine ⟨?_, h.2⟩
  obtain ⟨hl, h0 | ⟨g, cap, cur, hv, hg, hh, h1, h2, h3, h4⟩⟩ := h.1
  · exact ⟨hl, .inl h0⟩
  · refine ⟨hl, .inr ⟨g, cap, cur, hv, hg, ?_, h1, h2, h3, h4⟩⟩
    exact Blk.below (w := w) hh hb
theorem OI.mono {w : World} {base base' : Nat} {v : Value} {zs : List Int} (h : OI w base v zs) (hb : base' ≤ base) : OI w base' v zs := by
  refine ⟨?_, h.2⟩
  obtain ⟨hl, h0 | ⟨g, cap, cur, hv, hg, hh, h1, h2, h3, h4⟩⟩ := h.1
  · exact ⟨hl, .inl h0⟩
  · exact ⟨hl, .inr ⟨g, cap, cur, hv, by omega, hh, h1, h2, h3, h4⟩⟩
theorem OI.other {w : World} {base : Nat} {v : Value} {zs : List Int} (h : OI w base v zs) (a : Addr) (u : Value) (ha : a.block < base) : OI (w.setCell a u) base v zs := by
  refine ⟨?_, h.2⟩
  obtain ⟨hl, h0 | ⟨g, cap, cur, hv, hg, hh, h1, h2, h3, h4⟩⟩ := h.1
  · exact ⟨hl, .inl h0⟩
  · exact ⟨hl, .inr ⟨g, cap, cur, hv, hg, Blk.other (w := w) hh a u (by omega), h1, h2, h3, h4⟩⟩
theorem OI.lt {w : World} {base : Nat} {v : Value} {zs : List Int} (h : OI w base v zs) : ∀ k, v.ownBlock = some k → base ≤ k ∧ k < w.heap.size := h.1.lt
def RoomI (w : World) (g n : Nat) : Prop := ∃ cur, Blk w g cur 3 ∧ n ≤ cur.size
theorem RoomI.cell {w : World} {g n : Nat} (h : RoomI w g n) (i : Nat) (hi : i < n) : ∃ u, w.cell? ⟨g, i, none⟩ = some u := by
  obtain ⟨cur, hb, hn⟩ := h
  rw [hb.cell]
  exact ⟨cur[i], by simp⟩
theorem RoomI.frozen {w : World} {g n : Nat} (h : RoomI w g n) (i : Nat) : w.frozen? ⟨g, i, none⟩ = false := by
  obtain ⟨cur, hb, hn⟩ := h
  exact hb.frozen i
theorem RoomI.set {w : World} {g n : Nat} (h : RoomI w g n) (i : Nat) (u : Value) : RoomI (w.setCell ⟨g, i, none⟩ u) g n := by
  obtain ⟨cur, hb, hn⟩ := h
  exact ⟨_, hb.set i u, by simpa using hn⟩
theorem turn_oi {S : Nat → Prop} {base : Nat} {w w' : World} {v : Value} {zs : List Int} (ht : Turn S w w') (h : OI w base v zs) (hk : ∀ k, v.ownBlock = some k → ¬ S k) : OI w' base v zs := by
  refine ⟨?_, h.2⟩
  obtain ⟨hl, h0 | ⟨g', cap, cur, rfl, hg, hh, h1, h2, h3, h4⟩⟩ := h.1
  · exact ⟨hl, .inl h0⟩
  · exact ⟨hl, .inr ⟨g', cap, cur, rfl, hg, turn_blk ht hh (hk g' rfl), h1, h2, h3, h4⟩⟩
end Go.Proofs.Ytngdgogjlpjjpad
namespace Go.Proofs.Ytngdgogjlpjjpad
open Go.RowKit
set_option linter.unusedVariables false
set_option linter.unusedSimpArgs false
set_option maxRecDepth 100000
def wds (zs : List Int) : Bool := zs.all fun z => decide (0 ≤ z ∧ z ≤ 4294967295)
theorem wds_bad (zs : List Int) (k : Nat) (hk : k < zs.length) (h : ¬ (0 ≤ zs.getD k 0 ∧ zs.getD k 0 ≤ 4294967295)) : wds zs = false := by
  unfold wds
  rw [List.all_eq_false]
  refine ⟨zs[k], List.getElem_mem _, ?_⟩
  have : zs.getD k 0 = zs[k] := by simp [List.getD_eq_getElem?_getD, hk]
  rw [this] at h
  simpa using h
theorem wds_good (zs : List Int) (h : ∀ j, j < zs.length → 0 ≤ zs.getD j 0 ∧ zs.getD j 0 ≤ 4294967295) : wds zs = true := by
  unfold wds
  rw [List.all_eq_true]
  intro z hz
  obtain ⟨i, hi, rfl⟩ := List.getElem_of_mem hz
  have := h i hi
  rw [show zs.getD i 0 = zs[i] by simp [List.getD_eq_getElem?_getD, hi]] at this
  simpa using this
set_option maxHeartbeats 1000000 in
theorem l4Words_any (a : Option Addr) (n cap : Nat) (zs : List Int) (w : World) (h : IS w a n cap zs) :
    Calls Try.prog 94 #[.slice a n cap] w fun e w' => e = .returned (.bool (wds zs)) ∧ w = w' := by
  have hl := h.1
  have hmx := h.2.1
  unfold maxLen at hmx
  go_enter Try.func94, Try.ntmps94
  go_wp2_with fail
  go_loop [3] (fun i => ∃ k : Nat, k ≤ n ∧ i = .int .i64 k ∧ Hid (∀ j, j < k → 0 ≤ zs.getD j 0 ∧ zs.getD j 0 ≤ 4294967295)) (fun i => n - (intOf i).toNat)
  case atStart => exact ⟨0, Nat.zero_le _, rfl, hide (fun j hj => by omega)⟩
  case round =>
    obtain ⟨k, hk, rfl, HJ⟩ := hrel
    by_cases hlt : k < n
    · have hlt' : (k : Int) < (n : Int) := by omega
      obtain ⟨b, off, rfl⟩ := h.addr (by omega)
      have hck := h.at k hlt
      have HZ := hide (wds_bad zs k (by omega))
      have HG := hide (show 0 ≤ zs.getD k 0 ∧ zs.getD k 0 ≤ 4294967295 → ∀ j, j < k + 1 → 0 ≤ zs.getD j 0 ∧ zs.getD j 0 ≤ 4294967295 from fun h j hj => by
        by_cases e : j = k
        · subst e; exact h
        · exact HJ.out j (by omega))
      generalize zs.getD k 0 = z at *
      by_cases c1 : z < 0
      · go_wp2
        go_ret
        exact ⟨ret_bool (HZ.out (by omega)).symm, rfl⟩
      · by_cases c2 : 4294967295 < z
        · go_wp2
          go_ret
          exact ⟨ret_bool (HZ.out (by omega)).symm, rfl⟩
        · go_wp2
          go_round
          case rel => exact ⟨k + 1, by omega, by go_num, hide (HG.out (by omega))⟩
          case measure => simp [intOf]; omega
    · have HE := hide (wds_good zs (fun j hj => HJ.out j (by omega)))
      go_wp2
      go_ret
      exact ⟨ret_bool HE.out.symm, rfl⟩
set_option maxHeartbeats 1000000 in
theorem areWords_any (a : Option Addr) (n cap : Nat) (zs : List Int) (w : World) (h : IS w a n cap zs) :
    Calls Try.prog 82 #[.slice a n cap] w fun e w' => e = .returned (.bool (wds zs)) ∧ w = w' := by
  have hl := h.1
  have hmx := h.2.1
  unfold maxLen at hmx
  have HIW := hide (fun v w => isWord_any v w)
  go_enter Try.func82, Try.ntmps82
  go_wp2_with fail
  go_loop [7] (fun i => ∃ k : Nat, k ≤ n ∧ i = .int .i64 k ∧ Hid (∀ j, j < k → 0 ≤ zs.getD j 0 ∧ zs.getD j 0 ≤ 4294967295)) (fun i => n - (intOf i).toNat)
  case atStart => exact ⟨0, Nat.zero_le _, rfl, hide (fun j hj => by omega)⟩
  case round =>
    obtain ⟨k, hk, rfl, HJ⟩ := hrel
    by_cases hlt : k < n
    · have hlt' : (k : Int) < (n : Int) := by omega
      obtain ⟨b, off, rfl⟩ := h.addr (by omega)
      have hck := h.at k hlt
      have HZ := hide (wds_bad zs k (by omega))
      have HG := hide (show 0 ≤ zs.getD k 0 ∧ zs.getD k 0 ≤ 4294967295 → ∀ j, j < k + 1 → 0 ≤ zs.getD j 0 ∧ zs.getD j 0 ≤ 4294967295 from fun h j hj => by
        by_cases e : j = k
        · subst e; exact h
        · exact HJ.out j (by omega))
      generalize zs.getD k 0 = z at *
      have HW := hide (HIW.out z)
      by_cases c1 : 0 ≤ z ∧ z ≤ 4294967295
      · rw [decide_eq_true c1] at HW
        go_wp2_with (go_at_call 100; refine (HW.out _).mono ?_; rintro e w1 ⟨rfl, rfl⟩)
        go_round
        case rel => exact ⟨k + 1, by omega, by go_num, hide (HG.out c1)⟩
        case measure => simp [intOf]; omega
      · rw [decide_eq_false c1] at HW
        go_wp2_with (go_at_call 100; refine (HW.out _).mono ?_; rintro e w1 ⟨rfl, rfl⟩)
        go_ret
        exact ⟨ret_bool (HZ.out c1).symm, rfl⟩
    · have HE := hide (wds_good zs (fun j hj => HJ.out j (by omega)))
      go_wp2
      go_ret
      exact ⟨ret_bool HE.out.symm, rfl⟩
abbrev Bk := Option Addr × Nat × Nat × List Int
def zB : Bk := (none, 0, 0, [])
def BKS (w : World) (a : Option Addr) (n cap : Nat) (bl : List Bk) : Prop :=
  bl.length = n ∧ n ≤ maxLen ∧ (n ≠ 0 → ∃ b off, a = some ⟨b, off, none⟩ ∧ ∀ i, i < n → w.cell? ⟨b, off + i, none⟩ = some (.slice (bl.getD i zB).1 (bl.getD i zB).2.1 (bl.getD i zB).2.2.1)) ∧ (∀ i, i < n → IS w (bl.getD i zB).1 (bl.getD i zB).2.1 (bl.getD i zB).2.2.1 (bl.getD i zB).2.2.2) ∧ n ≤ cap
theorem BKS.below {w w' : World} {a : Option Addr} {n cap : Nat} {bl : List Bk} (h : BKS w a n cap bl) (hb : Below w.heap.size w w') : BKS w' a n cap bl := by
  obtain ⟨h1, h2, h3, h4, h5⟩ := h
  refine ⟨h1, h2, fun hn => ?_, fun i hi => (h4 i hi).below hb, h5⟩
  obtain ⟨b, off, e, hc⟩ := h3 hn
  exact ⟨b, off, e, fun i hi => (hb.cell (World.block_lt_of_cell? w _ (hc i hi))).trans (hc i hi)⟩
theorem BKS.addr {w : World} {a : Option Addr} {n cap : Nat} {bl : List Bk} (h : BKS w a n cap bl) (hn : n ≠ 0) : ∃ b off, a = some ⟨b, off, none⟩ := by
  obtain ⟨b, off, e, _⟩ := h.2.2.1 hn
  exact ⟨b, off, e⟩
theorem BKS.at {w : World} {b off n cap : Nat} {bl : List Bk} (h : BKS w (some ⟨b, off, none⟩) n cap bl) (i : Nat) (hi : i < n) : w.cell? ⟨b, off + i, none⟩ = some (.slice (bl.getD i zB).1 (bl.getD i zB).2.1 (bl.getD i zB).2.2.1) := by
  obtain ⟨b', off', e, hc⟩ := h.2.2.1 (by omega)
  simp at e
  obtain ⟨rfl, rfl⟩ := e
  exact hc i hi
def bko (b : Bk) : Bool := decide (1 ≤ b.2.1 ∧ b.2.1 ≤ 64) && wds b.2.2.2
def cdo (tn : Nat) (tz : List Int) (bn : Nat) (bl : List Bk) : Bool := decide (tn ≤ 200 ∧ bn ≤ 4) && (wds tz && bl.all bko)
theorem all_bad (bl : List Bk) (k : Nat) (hk : k < bl.length) (h : bko (bl.getD k zB) = false) : bl.all bko = false := by
  rw [List.all_eq_false]
  exact ⟨bl[k], List.getElem_mem _, by rw [show bl.getD k zB = bl[k] by simp [List.getD_eq_getElem?_getD, hk]] at h; simp [h]⟩
theorem all_good (bl : List Bk) (h : ∀ j, j < bl.length → bko (bl.getD j zB) = true) : bl.all bko = true := by
  rw [List.all_eq_true]
  intro z hz
  obtain ⟨i, hi, rfl⟩ := List.getElem_of_mem hz
  have := h i hi
  rwa [show bl.getD i zB = bl[i] by simp [List.getD_eq_getElem?_getD, hi]] at this
theorem Blk.eight {w : World} {g : Nat} {a b c d e f x y : Value} {t : TypeId} (h : Blk w g #[a, b, c, d, e, f, x, y] t) :
    w.cell? ⟨g, 0, none⟩ = some a ∧ w.cell? ⟨g, 1, none⟩ = some b ∧ w.cell? ⟨g, 2, none⟩ = some c ∧ w.cell? ⟨g, 3, none⟩ = some d ∧ w.cell? ⟨g, 4, none⟩ = some e ∧ w.cell? ⟨g, 5, none⟩ = some f ∧ w.cell? ⟨g, 6, none⟩ = some x ∧ w.cell? ⟨g, 7, none⟩ = some y :=
  ⟨by rw [h.cell]; rfl, by rw [h.cell]; rfl, by rw [h.cell]; rfl, by rw [h.cell]; rfl, by rw [h.cell]; rfl, by rw [h.cell]; rfl, by rw [h.cell]; rfl, by rw [h.cell]; rfl⟩
set_option maxHeartbeats 2000000 in
theorem l4CodeOk_any (nm : ByteArray) (ta : Option Addr) (tn tc : Nat) (tz : List Int) (ba : Option Addr) (bn bc : Nat) (bl : List Bk) (v3 v5 v6 v7 : Value) (bss : Int) (w : World) (ht : IS w ta tn tc tz) (hb : BKS w ba bn bc bl) :
    Calls Try.prog 64 #[.agg #[.string nm, .slice ta tn tc, .slice ba bn bc, v3, .int .i64 bss, v5, v6, v7]] w fun e w' => e = .returned (.bool (cdo tn tz bn bl)) ∧ Below w.heap.size w w' := by
  obtain ⟨W, hW⟩ : ∃ W, W = w.alloc (.cells #[.string nm, .slice ta tn tc, .slice ba bn bc, v3, .int .i64 bss, v5, v6, v7] 29) := ⟨_, rfl⟩
  have hB0 : Below w.heap.size w W := by rw [hW]; exact (Below.refl _ _).alloc (Nat.le_refl _) _
  have kb : Blk W w.heap.size #[.string nm, .slice ta tn tc, .slice ba bn bc, v3, .int .i64 bss, v5, v6, v7] 29 := by rw [hW]; exact Blk.new _ _ _
  obtain ⟨q0, q1, q2, q3, q4, q5, q6, q7⟩ := kb.eight
  have HT := hide (fun w h => l4Words_any ta tn tc tz w h)
  obtain ⟨r, hr⟩ : ∃ r, r = cdo tn tz bn bl := ⟨_, rfl⟩
  rw [← hr]
  unfold cdo at hr
  have ht0 := ht.below hB0
  have hb0 := hb.below hB0
  have hm1 := ht.2.1
  have hm2 := hb.2.1
  unfold maxLen at hm1 hm2
  have HW := hide hW
  clear hW
  by_cases c1 : 200 < tn
  · have HR := hide (show r = false by rw [hr, decide_eq_false (by omega)]; rfl)
    clear hr
    have c1' : (200 : Int) < (tn : Int) := by omega
    go_enter Try.func64, Try.ntmps64
    go_wp2_with (rw [← HW.out])
    go_ret
    exact ⟨ret_bool HR.out.symm, hB0⟩
  · have c1' : ¬ (200 : Int) < (tn : Int) := by omega
    by_cases c2 : 4 < bn
    · have HR := hide (show r = false by rw [hr, decide_eq_false (by omega)]; rfl)
      clear hr
      have c2' : (4 : Int) < (bn : Int) := by omega
      go_enter Try.func64, Try.ntmps64
      go_wp2_with (rw [← HW.out])
      go_ret
      exact ⟨ret_bool HR.out.symm, hB0⟩
    · have c2' : ¬ (4 : Int) < (bn : Int) := by omega
      cases hz : wds tz
      · rw [hz] at HT
        have HR := hide (show r = false by rw [hr, hz]; simp)
        clear hr
        go_enter Try.func64, Try.ntmps64
        go_wp2_with (first | (rw [← HW.out]) | (go_at_call 94; refine (HT.out _ ht0).mono ?_; rintro e w1 ⟨rfl, rfl⟩))
        go_ret
        exact ⟨ret_bool HR.out.symm, hB0⟩
      · rw [hz] at HT
        have hr' : r = bl.all bko := by rw [hr, hz, decide_eq_true (by omega)]; simp
        have HR := hide hr'
        clear hr hr'
        have hl := hb.1
        go_enter Try.func64, Try.ntmps64
        go_wp2_with (first | (rw [← HW.out]) | (go_at_call 94; refine (HT.out _ ht0).mono ?_; rintro e w1 ⟨rfl, rfl⟩))
        go_loop [3] (fun i => ∃ k : Nat, k ≤ bn ∧ i = .int .i64 k ∧ Hid (∀ j, j < k → bko (bl.getD j zB) = true)) (fun i => bn - (intOf i).toNat)
        case atStart => exact ⟨0, Nat.zero_le _, rfl, hide (fun j hj => by omega)⟩
        case round =>
          obtain ⟨k, hk, rfl, HJ⟩ := hrel
          by_cases hlt : k < bn
          · have hlt' : (k : Int) < (bn : Int) := by omega
            obtain ⟨bb, off, rfl⟩ := hb0.addr (by omega)
            have hck := hb0.at k hlt
            have hik := hb0.2.2.2.1 k hlt
            have HZ := hide (all_bad bl k (by omega))
            have HG := hide (show bko (bl.getD k zB) = true → ∀ j, j < k + 1 → bko (bl.getD j zB) = true from fun h j hj => by
              by_cases e : j = k
              · subst e; exact h
              · exact HJ.out j (by omega))
            generalize bl.getD k zB = B at *
            obtain ⟨xa, xn, xc, xz⟩ := B
            dsimp only at hck hik
            have hxm := hik.2.1
            unfold maxLen at hxm
            have HX := hide (fun w h => l4Words_any xa xn xc xz w h)
            by_cases d1 : xn < 1
            · have d1' : (xn : Int) < 1 := by omega
              go_wp2
              go_ret
              exact ⟨ret_bool (by rw [HR.out]; exact (HZ.out (by unfold bko; dsimp only; rw [decide_eq_false (by omega)]; rfl)).symm), hB0⟩
            · have d1' : ¬ (xn : Int) < 1 := by omega
              by_cases d2 : 64 < xn
              · have d2' : (64 : Int) < (xn : Int) := by omega
                go_wp2
                go_ret
                exact ⟨ret_bool (by rw [HR.out]; exact (HZ.out (by unfold bko; dsimp only; rw [decide_eq_false (by omega)]; rfl)).symm), hB0⟩
              · have d2' : ¬ (64 : Int) < (xn : Int) := by omega
                cases hx : wds xz
                · rw [hx] at HX
                  go_wp2_with (go_at_call 94; refine (HX.out _ hik).mono ?_; rintro e w1 ⟨rfl, rfl⟩)
                  go_ret
                  exact ⟨ret_bool (by rw [HR.out]; exact (HZ.out (by unfold bko; dsimp only; rw [hx]; simp)).symm), hB0⟩
                · rw [hx] at HX
                  go_wp2_with (go_at_call 94; refine (HX.out _ hik).mono ?_; rintro e w1 ⟨rfl, rfl⟩)
                  go_round
                  case rel => exact ⟨k + 1, by omega, by go_num, hide (HG.out (by unfold bko; dsimp only; rw [hx, decide_eq_true (by omega)]; rfl))⟩
                  case measure => simp [intOf]; omega
          · have HE := hide (all_good bl (fun j hj => HJ.out j (by omega)))
            go_wp2
            go_ret
            exact ⟨ret_bool (by rw [HR.out]; exact HE.out.symm), hB0⟩
set_option maxHeartbeats 2000000 in
theorem codeOk_any (nm : ByteArray) (ta : Option Addr) (tn tc : Nat) (tz : List Int) (ba : Option Addr) (bn bc : Nat) (bl : List Bk) (v3 v5 v6 v7 : Value) (bss : Int) (w : World) (ht : IS w ta tn tc tz) (hb : BKS w ba bn bc bl) :
    Calls Try.prog 33 #[.agg #[.string nm, .slice ta tn tc, .slice ba bn bc, v3, .int .i64 bss, v5, v6, v7]] w fun e w' => e = .returned (.bool (cdo tn tz bn bl)) ∧ Below w.heap.size w w' := by
  obtain ⟨W, hW⟩ : ∃ W, W = w.alloc (.cells #[.string nm, .slice ta tn tc, .slice ba bn bc, v3, .int .i64 bss, v5, v6, v7] 29) := ⟨_, rfl⟩
  have hB0 : Below w.heap.size w W := by rw [hW]; exact (Below.refl _ _).alloc (Nat.le_refl _) _
  have kb : Blk W w.heap.size #[.string nm, .slice ta tn tc, .slice ba bn bc, v3, .int .i64 bss, v5, v6, v7] 29 := by rw [hW]; exact Blk.new _ _ _
  obtain ⟨q0, q1, q2, q3, q4, q5, q6, q7⟩ := kb.eight
  have HT := hide (fun w h => areWords_any ta tn tc tz w h)
  obtain ⟨r, hr⟩ : ∃ r, r = cdo tn tz bn bl := ⟨_, rfl⟩
  rw [← hr]
  unfold cdo at hr
  have ht0 := ht.below hB0
  have hb0 := hb.below hB0
  have hm1 := ht.2.1
  have hm2 := hb.2.1
  unfold maxLen at hm1 hm2
  have HW := hide hW
  clear hW
  by_cases c1 : 200 < tn
  · have HR := hide (show r = false by rw [hr, decide_eq_false (by omega)]; rfl)
    clear hr
    have c1' : (200 : Int) < (tn : Int) := by omega
    go_enter Try.func33, Try.ntmps33
    go_wp2_with (rw [← HW.out])
    go_ret
    exact ⟨ret_bool HR.out.symm, hB0⟩
  · have c1' : ¬ (200 : Int) < (tn : Int) := by omega
    by_cases c2 : 4 < bn
    · have HR := hide (show r = false by rw [hr, decide_eq_false (by omega)]; rfl)
      clear hr
      have c2' : (4 : Int) < (bn : Int) := by omega
      go_enter Try.func33, Try.ntmps33
      go_wp2_with (rw [← HW.out])
      go_ret
      exact ⟨ret_bool HR.out.symm, hB0⟩
    · have c2' : ¬ (4 : Int) < (bn : Int) := by omega
      cases hz : wds tz
      · rw [hz] at HT
        have HR := hide (show r = false by rw [hr, hz]; simp)
        clear hr
        go_enter Try.func33, Try.ntmps33
        go_wp2_with (first | (rw [← HW.out]) | (go_at_call 82; refine (HT.out _ ht0).mono ?_; rintro e w1 ⟨rfl, rfl⟩))
        go_ret
        exact ⟨ret_bool HR.out.symm, hB0⟩
      · rw [hz] at HT
        have hr' : r = bl.all bko := by rw [hr, hz, decide_eq_true (by omega)]; simp
        have HR := hide hr'
        clear hr hr'
        have hl := hb.1
        go_enter Try.func33, Try.ntmps33
        go_wp2_with (first | (rw [← HW.out]) | (go_at_call 82; refine (HT.out _ ht0).mono ?_; rintro e w1 ⟨rfl, rfl⟩))
        go_loop [24] (fun i => ∃ k : Nat, k ≤ bn ∧ i = .int .i64 k ∧ Hid (∀ j, j < k → bko (bl.getD j zB) = true)) (fun i => bn - (intOf i).toNat)
        case atStart => exact ⟨0, Nat.zero_le _, rfl, hide (fun j hj => by omega)⟩
        case round =>
          obtain ⟨k, hk, rfl, HJ⟩ := hrel
          by_cases hlt : k < bn
          · have hlt' : (k : Int) < (bn : Int) := by omega
            obtain ⟨bb, off, rfl⟩ := hb0.addr (by omega)
            have hck := hb0.at k hlt
            have hik := hb0.2.2.2.1 k hlt
            have HZ := hide (all_bad bl k (by omega))
            have HG := hide (show bko (bl.getD k zB) = true → ∀ j, j < k + 1 → bko (bl.getD j zB) = true from fun h j hj => by
              by_cases e : j = k
              · subst e; exact h
              · exact HJ.out j (by omega))
            generalize bl.getD k zB = B at *
            obtain ⟨xa, xn, xc, xz⟩ := B
            dsimp only at hck hik
            have hxm := hik.2.1
            unfold maxLen at hxm
            have HX := hide (fun w h => areWords_any xa xn xc xz w h)
            by_cases d1 : xn < 1
            · have d1' : (xn : Int) < 1 := by omega
              go_wp2
              go_ret
              exact ⟨ret_bool (by rw [HR.out]; exact (HZ.out (by unfold bko; dsimp only; rw [decide_eq_false (by omega)]; rfl)).symm), hB0⟩
            · have d1' : ¬ (xn : Int) < 1 := by omega
              by_cases d2 : 64 < xn
              · have d2' : (64 : Int) < (xn : Int) := by omega
                go_wp2
                go_ret
                exact ⟨ret_bool (by rw [HR.out]; exact (HZ.out (by unfold bko; dsimp only; rw [decide_eq_false (by omega)]; rfl)).symm), hB0⟩
              · have d2' : ¬ (64 : Int) < (xn : Int) := by omega
                cases hx : wds xz
                · rw [hx] at HX
                  go_wp2_with (go_at_call 82; refine (HX.out _ hik).mono ?_; rintro e w1 ⟨rfl, rfl⟩)
                  go_ret
                  exact ⟨ret_bool (by rw [HR.out]; exact (HZ.out (by unfold bko; dsimp only; rw [hx]; simp)).symm), hB0⟩
                · rw [hx] at HX
                  go_wp2_with (go_at_call 82; refine (HX.out _ hik).mono ?_; rintro e w1 ⟨rfl, rfl⟩)
                  go_round
                  case rel => exact ⟨k + 1, by omega, by go_num, hide (HG.out (by unfold bko; dsimp only; rw [hx, decide_eq_true (by omega)]; rfl))⟩
                  case measure => simp [intOf]; omega
          · have HE := hide (all_good bl (fun j hj => HJ.out j (by omega)))
            go_wp2
            go_ret
            exact ⟨ret_bool (by rw [HR.out]; exact HE.out.symm), hB0⟩
def rlk (rz : List Int) (dn : Nat) (k : Nat) : Bool := decide (0 ≤ rz.getD k 0 ∧ rz.getD k 0 % 4 = 0 ∧ rz.getD k 0 ≤ (dn : Int) - 4 ∧ (k = 0 ∨ rz.getD (k - 1) 0 < rz.getD k 0))
def rlo (rn : Nat) (rz : List Int) (dn : Nat) : Bool := decide (rn ≤ 16) && (List.range rn).all (rlk rz dn)
theorem rng_bad (f : Nat → Bool) (n k : Nat) (hk : k < n) (h : f k = false) : (List.range n).all f = false := by
  rw [List.all_eq_false]
  exact ⟨k, by simpa using hk, by simp [h]⟩
theorem rng_good (f : Nat → Bool) (n : Nat) (h : ∀ j, j < n → f j = true) : (List.range n).all f = true := by
  rw [List.all_eq_true]
  exact fun k hk => h k (by simpa using hk)
theorem tmod4 (z : Int) : (z.tmod 4 != 0) = decide (z % 4 ≠ 0) := by
  have h : z.tmod 4 = 0 ↔ z % 4 = 0 := by
    rw [← Int.dvd_iff_tmod_eq_zero, ← Int.dvd_iff_emod_eq_zero]
  by_cases c : z % 4 = 0
  · simp [h.2 c, c]
  · have : ¬ z.tmod 4 = 0 := fun e => c (h.1 e)
    simp [this, c]
set_option maxHeartbeats 2000000 in
theorem l4RelocsOk_any (nm : ByteArray) (v1 v2 : Value) (da : Option Addr) (dn dc : Nat) (bss : Int) (ra : Option Addr) (rn rc : Nat) (rz : List Int) (v6 v7 : Value) (w : World) (hd : dn ≤ maxLen) (h : IS w ra rn rc rz) :
    Calls Try.prog 65 #[.agg #[.string nm, v1, v2, .slice da dn dc, .int .i64 bss, .slice ra rn rc, v6, v7]] w fun e w' => e = .returned (.bool (rlo rn rz dn)) ∧ Below w.heap.size w w' := by
  obtain ⟨W, hW⟩ : ∃ W, W = w.alloc (.cells #[.string nm, v1, v2, .slice da dn dc, .int .i64 bss, .slice ra rn rc, v6, v7] 29) := ⟨_, rfl⟩
  have hB0 : Below w.heap.size w W := by rw [hW]; exact (Below.refl _ _).alloc (Nat.le_refl _) _
  have kb : Blk W w.heap.size #[.string nm, v1, v2, .slice da dn dc, .int .i64 bss, .slice ra rn rc, v6, v7] 29 := by rw [hW]; exact Blk.new _ _ _
  obtain ⟨q0, q1, q2, q3, q4, q5, q6, q7⟩ := kb.eight
  obtain ⟨r, hr⟩ : ∃ r, r = rlo rn rz dn := ⟨_, rfl⟩
  rw [← hr]
  unfold rlo at hr
  have h0 := h.below hB0
  have hm1 := h.2.1
  unfold maxLen at hm1 hd
  have HW := hide hW
  clear hW
  by_cases c1 : 16 < rn
  · have HR := hide (show r = false by rw [hr, decide_eq_false (by omega)]; rfl)
    clear hr
    have c1' : (16 : Int) < (rn : Int) := by omega
    go_enter Try.func65, Try.ntmps65
    go_wp2_with (rw [← HW.out])
    go_ret
    exact ⟨ret_bool HR.out.symm, hB0⟩
  · have c1' : ¬ (16 : Int) < (rn : Int) := by omega
    have HR := hide (show r = (List.range rn).all (rlk rz dn) by rw [hr, decide_eq_true (by omega)]; rfl)
    clear hr
    go_enter Try.func65, Try.ntmps65
    go_wp2_with (rw [← HW.out])
    go_loop [3] (fun i => ∃ k : Nat, k ≤ rn ∧ i = .int .i64 k ∧ Hid (∀ j, j < k → rlk rz dn j = true)) (fun i => rn - (intOf i).toNat)
    case atStart => exact ⟨0, Nat.zero_le _, rfl, hide (fun j hj => by omega)⟩
    case round =>
      obtain ⟨k, hk, rfl, HJ⟩ := hrel
      by_cases hlt : k < rn
      · have hlt' : (k : Int) < (rn : Int) := by omega
        obtain ⟨bb, off, rfl⟩ := h0.addr (by omega)
        have hck := h0.at k hlt
        have HZ := hide (rng_bad (rlk rz dn) rn k hlt)
        have HG := hide (show rlk rz dn k = true → ∀ j, j < k + 1 → rlk rz dn j = true from fun h j hj => by
          by_cases e : j = k
          · subst e; exact h
          · exact HJ.out j (by omega))
        have HK := hide (show ∀ b : Bool, (b = true ↔ (0 ≤ rz.getD k 0 ∧ rz.getD k 0 % 4 = 0 ∧ rz.getD k 0 ≤ (dn : Int) - 4 ∧ (k = 0 ∨ rz.getD (k - 1) 0 < rz.getD k 0))) → rlk rz dn k = b from fun b hb => by unfold rlk; rw [Bool.eq_iff_iff, hb]; simp)
        have hrg := h0.range k
        unfold wfi at hrg
        obtain ⟨g0, g1⟩ := hrg
        have ht4 := tmod4 (rz.getD k 0)
        by_cases k0 : k = 0
        · subst k0
          simp only [Nat.add_zero] at hck
          generalize rz.getD 0 0 = z at *
          by_cases d1 : z < 0
          · go_wp2
            go_ret
            exact ⟨ret_bool (by rw [HR.out]; exact (HZ.out (HK.out false (by simp; omega))).symm), hB0⟩
          · by_cases d2 : z % 4 ≠ 0
            · rw [decide_eq_true d2] at ht4
              go_wp2
              go_ret
              exact ⟨ret_bool (by rw [HR.out]; exact (HZ.out (HK.out false (by simp; omega))).symm), hB0⟩
            · rw [decide_eq_false d2] at ht4
              by_cases d3 : (dn : Int) - 4 < z
              · go_wp2
                go_ret
                exact ⟨ret_bool (by rw [HR.out]; exact (HZ.out (HK.out false (by simp; omega))).symm), hB0⟩
              · go_wp2
                go_round
                case rel => exact ⟨1, by omega, by go_num, hide (HG.out (HK.out true (by simp; omega)))⟩
                case measure => simp [intOf]; omega
        · have hpk := h0.at (k - 1) (by omega)
          have hk0 : (0 : Int) < (k : Int) := by omega
          have hk1 : (0 : Int) ≤ (k : Int) - 1 := by omega
          have hk2 : (k : Int) - 1 < (rn : Int) := by omega
          generalize rz.getD (k - 1) 0 = y at *
          generalize rz.getD k 0 = z at *
          by_cases d1 : z < 0
          · go_wp2
            go_ret
            exact ⟨ret_bool (by rw [HR.out]; exact (HZ.out (HK.out false (by simp; omega))).symm), hB0⟩
          · by_cases d2 : z % 4 ≠ 0
            · rw [decide_eq_true d2] at ht4
              go_wp2
              go_ret
              exact ⟨ret_bool (by rw [HR.out]; exact (HZ.out (HK.out false (by simp; omega))).symm), hB0⟩
            · rw [decide_eq_false d2] at ht4
              by_cases d3 : (dn : Int) - 4 < z
              · go_wp2
                go_ret
                exact ⟨ret_bool (by rw [HR.out]; exact (HZ.out (HK.out false (by simp; omega))).symm), hB0⟩
              · by_cases d4 : z ≤ y
                · go_wp2
                  go_ret
                  exact ⟨ret_bool (by rw [HR.out]; exact (HZ.out (HK.out false (by simp; omega))).symm), hB0⟩
                · go_wp2
                  go_round
                  case rel => exact ⟨k + 1, by omega, by go_num, hide (HG.out (HK.out true (by simp; omega)))⟩
                  case measure => simp [intOf]; omega
      · have HE := hide (rng_good (rlk rz dn) rn (fun j hj => HJ.out j (by omega)))
        go_wp2
        go_ret
        exact ⟨ret_bool (by rw [HR.out]; exact HE.out.symm), hB0⟩
end Go.Proofs.Ytngdgogjlpjjpad
