import Derived.Test.YtngdgogjlpjjpacK01
import Derived.Lib.Bytealg
import Derived.WideShapes
namespace Go.Proofs.Ytngdgogjlpjjpac
open Go.RowKit
set_option linter.unusedVariables false
set_option linter.unusedSimpArgs false
set_option maxRecDepth 100000

theorem idx_dot (l : List UInt8) : ∀ (s : ByteArray) (k : Nat), s.data.toList.drop k = l → Lib.indexByte l (46 : Int).toNat.toUInt8 = (let d := dotFrom s l.length k; if d = -1 then -1 else d - k) := by
  induction l with
  | nil => intro s k h; rfl
  | cons b l ih =>
    intro s k h
    have hk : k < s.data.toList.length := by
      by_cases e : k < s.data.toList.length
      · exact e
      · rw [List.drop_eq_nil_of_le (by omega)] at h; cases h
    have hks : k < s.size := by simpa using hk
    have hb : s.data.toList[k]'hk = b := by
      have h2 : s.data.toList[k]? = some b := by
        have := congrArg (fun t => t[0]?) h
        simpa using this
      rw [List.getElem?_eq_getElem hk] at h2
      injection h2
    have hd : s.data.toList.drop (k + 1) = l := by
      have := congrArg List.tail h
      simpa using this
    have hbyt : byt s k = (b.toNat : Int) := by
      unfold byt
      rw [get_bang s k hks, ← hb]
      rfl
    have ih' := ih s (k + 1) hd
    simp only [Lib.indexByte, List.length_cons, dotFrom, hbyt]
    rw [ih']
    have e46 : (46 : Int).toNat.toUInt8 = 46 := rfl
    rw [e46]
    by_cases c : b = 46
    · subst c
      simp
    · have c1 : (b == 46) = false := by simpa using c
      have c2 : ¬ ((b.toNat : Int) = 46) := fun e => c (UInt8.toNat_inj.1 (by simpa using (by omega : b.toNat = 46)))
      rw [c1, if_neg c2]
      rcases dotFrom_range s l.length (k + 1) with e | e
      · simp [e]
      · have n1 : ¬ dotFrom s l.length (k + 1) = -1 := by omega
        simp only [n1, if_false, Bool.false_eq_true]
        split
        · next h => simp at h; omega
        · omega
theorem idx_dot' (s : ByteArray) : Lib.indexByte s.data.toList (46 : Int).toNat.toUInt8 = dot s := by
  have := idx_dot s.data.toList s 0 (by simp)
  rw [this]
  have e : s.data.toList.length = s.size := Array.length_toList
  unfold dot
  rw [e]
  rcases dotFrom_range s s.size 0 with h | h
  · simp [h]
  · simp only [if_neg (show ¬ dotFrom s s.size 0 = -1 by omega)]
    omega

set_option maxHeartbeats 1000000 in
theorem indexByte_any (s : ByteArray) (w : World) :
    Calls Try.prog 146 #[.string s, .int .u8 46] w fun e w' => e = .returned (.int .i64 (dot s)) ∧ w = w' := by
  have HD := hide (idx_dot' s)
  go_enter Try.func146, Try.ntmps146
  go_wp2
  rw [run_callFunc_extern Try.func152 (by kernel_rfl) (by kernel_rfl) (by kernel_rfl) (e := Extern.BytealgIndexByte.indexByte) (by kernel_rfl), Lib.run_indexByteString]
  simp only [Result.andThen]
  rw [Oper.upon_value]
  go_wp2
  go_ret
  exact ⟨ret_int HD.out, rfl⟩

set_option maxHeartbeats 1000000 in
theorem index_dot (s : ByteArray) (w : World) (hs : s.size ≤ 1048576) :
    Calls Try.prog 143 #[.string s, .string ⟨#[46]⟩] w fun e w' => e = .returned (.int .i64 (dot s)) ∧ w = w' := by
  have HI := hide (fun w => indexByte_any s w)
  by_cases he : (⟨#[46]⟩ : ByteArray) = s
  · subst he
    have HD : Hid (dot ⟨#[46]⟩ = 0) := by show _ = _; rfl
    clear HI
    go_enter Try.func143, Try.ntmps143
    go_wp2
    go_ret
    exact ⟨ret_int HD.out.symm, rfl⟩
  · have hne : ¬ ([46] : List UInt8) = s.toList := fun e => he (Go.WideShapes.bytes_inj (by rw [ByteArray.toList_eq] at e; exact e))
    have he' : (([46] : List UInt8) == s.toList) = false := by simpa using hne
    have he2 : ((⟨#[46]⟩ : ByteArray).toList == s.toList) = false := by rw [ByteArray.toList_eq]; exact he'
    have h46 : ∀ w : World, (Instr.index 9 (.string ⟨#[46]⟩) (.int .i64 0)).run Try.prog w = .ok (.int .u8 46) w := fun w => by kernel_rfl
    go_enter Try.func143, Try.ntmps143
    go_wp2_with (go_at_call 146; refine (HI.out _).mono ?_; rintro e w1 ⟨rfl, rfl⟩)
    go_ret
    exact ⟨rfl, rfl⟩

set_option maxHeartbeats 1000000 in
theorem slCut_any (s : ByteArray) (w : World) (hs : s.size ≤ 1048576) :
    Calls Try.prog 138 #[.string s, .string ⟨#[46]⟩] w fun e w' => e = .returned (.tuple #[.string (if 0 ≤ dot s then cutA s else s), .string (if 0 ≤ dot s then cutB s else ⟨#[]⟩), .bool (decide (0 ≤ dot s))]) ∧ Below w.heap.size w w' := by
  have HI := hide (fun w => index_dot s w hs)
  have HB := hide (Below.refl w.heap.size w)
  rcases dot_range s with h | ⟨h0, h1⟩
  · have hn : ¬ (0 ≤ dot s) := by omega
    rw [if_neg hn, if_neg hn, decide_eq_false hn]
    rw [h] at HI
    clear h hn
    go_enter Try.func138, Try.ntmps138
    go_wp2_with (go_at_call 143; refine (HI.out _).mono ?_; rintro e w1 ⟨rfl, rfl⟩)
    all_goals (try go_region)
    all_goals (try go_wp2)
    all_goals go_ret3
    all_goals exact ⟨rfl, by first | exact HB.out | exact HB.out.drew⟩
  · rw [if_pos h0, if_pos h0, decide_eq_true h0]
    unfold cutA cutB
    generalize dot s = p at *
    go_enter Try.func138, Try.ntmps138
    go_wp2_with (go_at_call 143; refine (HI.out _).mono ?_; rintro e w1 ⟨rfl, rfl⟩)
    all_goals (try go_region)
    all_goals (try go_wp2)
    all_goals go_ret3
    all_goals exact ⟨rfl, by first | exact HB.out | exact HB.out.drew⟩
end Go.Proofs.Ytngdgogjlpjjpac
