import Derived.Test.YthnelonbpbhhbabIn3
import Derived.Test.YthnelonbpbhhbabIn4
namespace Go.Proofs.Ythnelonbpbhhbab
open Go.RowKit
set_option linter.unusedVariables false
set_option linter.unusedSimpArgs false

set_option maxHeartbeats 2000000 in
theorem fnIns_walk (a : Option Addr) (n c : Nat) (zs : List Int) (w : World) (h : BS w a n c zs) :
    Calls Try.prog 5 #[.slice a n c] w fun e w' => e = .returned (.bool true) ∧ Below w.heap.size w w' := by
  have hm := h.2.1
  unfold maxLen at hm
  by_cases hn : (1048576 : Int) < (n : Int)
  · go_enter Try.func5, Try.ntmps5
    go_wp2
    go_ret
    exact ⟨rfl, Below.refl _ _⟩
  · go_enter Try.func5, Try.ntmps5
    go_wp2_with fail
    refine (drawEncode_any a n c zs _ h).mono ?_
    rintro e w1 ⟨o, d, x, i, rfl, hB1⟩
    have HS := hide (sEncode_any o d x i)
    have HI := hide (iEncode_any o d x i)
    have k1 := Blk.new w1 #[.int .i64 o, .int .i64 d, .int .i64 x, .int .i64 i] 43
    have hB1' := hB1.alloc hB1.size (.cells #[.int .i64 o, .int .i64 d, .int .i64 x, .int .i64 i] 43)
    go_wp2_with fail
    refine (HS.out _).mono ?_
    rintro e w2 ⟨rfl, hb2⟩
    have k2 := k1.below hb2
    have hB2 := hB1'.trans (hb2.mono (by have := hB1.size; simp; omega))
    have hz2 : w1.heap.size < w2.heap.size := by have := hb2.size; simp at this; omega
    clear hb2 hB1' k1
    obtain ⟨q1, q2, q3, q4, q5⟩ := k2.four'
    go_wp2_with fail
    refine (HI.out _).mono ?_
    rintro e w3 ⟨rfl, hb3⟩
    have k3 := k2.below hb3
    have hB3 := hB2.trans (hb3.mono hB2.size)
    have hz3 : w1.heap.size < w3.heap.size := by have := hb3.size; omega
    have h3 := h.below hB3
    clear hb3 hB2 k2 q1 q2 q3 q4 q5
    obtain ⟨q1, q2, q3, q4, q5⟩ := k3.four'
    have eok : ∀ b : Bool, (b != b) = false := by intro b; simp
    cases hk : okI o d x i
    · clear k3 q1 q2 q3 q4 q5
      go_wp2_with fail
      refine (drawDecode_any a n c zs _ h3).mono ?_
      rintro e w5 ⟨y, rfl, hb5⟩
      have hB5 := hB3.trans (hb5.mono hB3.size)
      clear hb5
      have HSD := hide (sDecode_any y)
      have HID := hide (iDecode_any y)
      unfold DecPost at HSD HID
      cases hy : dOk y
      · rw [hy] at HSD HID
        simp only [Bool.false_eq_true, if_false] at HSD HID
        go_wp2_with fail
        refine (HSD.out _).mono ?_
        rintro e w6 ⟨rfl, hb6⟩
        have hB6 := (hB5.trans (hb6.mono hB5.size)).alloc (by have := hb6.size; have := hB5.size; omega) (.cells #[.int .i64 0, .int .i64 0, .int .i64 0, .int .i64 0] 43)
        go_wp2_with fail
        refine (HID.out _).mono ?_
        rintro e w7 ⟨rfl, hb7⟩
        have hB7 := hB6.trans (hb7.mono hB6.size)
        go_wp2
        go_ret
        exact ⟨rfl, hB7.alloc hB7.size _⟩
      · rw [hy] at HSD HID
        simp only [if_true] at HSD HID
        obtain ⟨ek, ev⟩ := enc_dec y hy
        have HE := hide (iEncode_any (y / 67108864) (y / 8388608 % 8) (y / 1048576 % 8) (y % 65536))
        unfold encV at HE
        rw [ek, if_pos rfl, ev] at HE
        clear ek ev hy
        have ey : (y == y) = true := by simp
        generalize y / 67108864 = y1 at *
        generalize y / 8388608 % 8 = y2 at *
        generalize y / 1048576 % 8 = y3 at *
        generalize y % 65536 = y4 at *
        go_wp2_with fail
        refine (HSD.out _).mono ?_
        rintro e w6 ⟨rfl, hb6⟩
        have hB6 := (hB5.trans (hb6.mono hB5.size)).alloc (by have := hb6.size; have := hB5.size; omega) (.cells #[.int .i64 y1, .int .i64 y2, .int .i64 y3, .int .i64 y4] 43)
        go_wp2_with fail
        refine (HID.out _).mono ?_
        rintro e w7 ⟨rfl, hb7⟩
        have hB7 := hB6.trans (hb7.mono hB6.size)
        have hB8 := hB7.alloc hB7.size (.cells #[.int .i64 y1, .int .i64 y2, .int .i64 y3, .int .i64 y4] 43)
        go_wp2_with fail
        refine (HE.out _).mono ?_
        rintro e w8 ⟨rfl, hb8⟩
        go_wp2
        go_ret
        exact ⟨rfl, hB8.trans (hb8.mono hB8.size)⟩
    · obtain ⟨e0, e1, e2, e3, e4⟩ := dec_enc o d x i hk
      have hv : encV o d x i = enc o d x i := by unfold encV; rw [hk, if_pos rfl]
      rw [hv]
      have HD := hide (iDecode_any (enc o d x i))
      unfold DecPost at HD
      rw [e0, e1, e2, e3, e4] at HD
      simp only [if_true] at HD
      generalize enc o d x i = V at *
      clear e0 e1 e2 e3 e4 hv hk
      have f1 : (o != o) = false := by simp
      have f2 : (d != d) = false := by simp
      have f3 : (x != x) = false := by simp
      have f4 : (i != i) = false := by simp
      go_wp2_with fail
      refine (HD.out _).mono ?_
      rintro e w4 ⟨rfl, hb4⟩
      have k4 := k3.below hb4
      have hB4 := (hB3.trans (hb4.mono hB3.size)).alloc (by have := hb4.size; have := hB3.size; omega) (.cells #[.int .i64 o, .int .i64 d, .int .i64 x, .int .i64 i] 43)
      have hz4 : w1.heap.size < w4.heap.size := by have := hb4.size; omega
      clear k3 q1 q2 q3 q4 q5
      obtain ⟨q1, q2, q3, q4, q5⟩ := k4.four'
      go_wp2_with fail
      refine (drawDecode_any a n c zs _ (h.below hB4)).mono ?_
      rintro e w5 ⟨y, rfl, hb5⟩
      have hB5 := hB4.trans (hb5.mono hB4.size)
      clear hb5
      have HSD := hide (sDecode_any y)
      have HID := hide (iDecode_any y)
      unfold DecPost at HSD HID
      cases hy : dOk y
      · rw [hy] at HSD HID
        simp only [Bool.false_eq_true, if_false] at HSD HID
        go_wp2_with fail
        refine (HSD.out _).mono ?_
        rintro e w6 ⟨rfl, hb6⟩
        have hB6 := (hB5.trans (hb6.mono hB5.size)).alloc (by have := hb6.size; have := hB5.size; omega) (.cells #[.int .i64 0, .int .i64 0, .int .i64 0, .int .i64 0] 43)
        go_wp2_with fail
        refine (HID.out _).mono ?_
        rintro e w7 ⟨rfl, hb7⟩
        have hB7 := hB6.trans (hb7.mono hB6.size)
        go_wp2
        go_ret
        exact ⟨rfl, hB7.alloc hB7.size _⟩
      · rw [hy] at HSD HID
        simp only [if_true] at HSD HID
        obtain ⟨ek, ev⟩ := enc_dec y hy
        have HE := hide (iEncode_any (y / 67108864) (y / 8388608 % 8) (y / 1048576 % 8) (y % 65536))
        unfold encV at HE
        rw [ek, if_pos rfl, ev] at HE
        clear ek ev hy
        have ey : (y == y) = true := by simp
        generalize y / 67108864 = y1 at *
        generalize y / 8388608 % 8 = y2 at *
        generalize y / 1048576 % 8 = y3 at *
        generalize y % 65536 = y4 at *
        go_wp2_with fail
        refine (HSD.out _).mono ?_
        rintro e w6 ⟨rfl, hb6⟩
        have hB6 := (hB5.trans (hb6.mono hB5.size)).alloc (by have := hb6.size; have := hB5.size; omega) (.cells #[.int .i64 y1, .int .i64 y2, .int .i64 y3, .int .i64 y4] 43)
        go_wp2_with fail
        refine (HID.out _).mono ?_
        rintro e w7 ⟨rfl, hb7⟩
        have hB7 := hB6.trans (hb7.mono hB6.size)
        have hB8 := hB7.alloc hB7.size (.cells #[.int .i64 y1, .int .i64 y2, .int .i64 y3, .int .i64 y4] 43)
        go_wp2_with fail
        refine (HE.out _).mono ?_
        rintro e w8 ⟨rfl, hb8⟩
        go_wp2
        go_ret
        exact ⟨rfl, hB8.trans (hb8.mono hB8.size)⟩
end Go.Proofs.Ythnelonbpbhhbab
