import Derived.Test.YtngdgogjlpjjpadGreatK34
import Derived.Test.YtngdgogjlpjjpadGreatK17
import Derived.Test.YtngdgogjlpjjpadGreatK29
import Derived.Test.YtngdgogjlpjjpadGreatK06
import Derived.Test.YtngdgogjlpjjpadGreatK14
namespace Go.Proofs.YtngdgogjlpjjpadGreat
open Go.RowKit
set_option linter.unusedVariables false

theorem sWrite_any (b1 o1 b2 o2 b3 o3 n1 c1 n2 c2 n3 c3 : Nat) (x1 x2 x3 : List Int) (p s v : Int) (w : World) (h1 : BS w (some ⟨b1, o1, none⟩) n1 c1 x1) (h2 : BS w (some ⟨b2, o2, none⟩) n2 c2 x2) (h3 : BS w (some ⟨b3, o3, none⟩) n3 c3 x3) (hn : n1 + n2 + n3 ≤ 1048576) (hv : -9223372036854775808 ≤ v ∧ v ≤ 9223372036854775807) (hmax : p ≤ 9223372036854775807) :
    Calls Tryz.prog 166 #[.agg #[.slice (some ⟨b1, o1, none⟩) n1 c1, .slice (some ⟨b2, o2, none⟩) n2 c2, .slice (some ⟨b3, o3, none⟩) n3 c3], .int .i64 p, .int .i64 s, .int .i64 v] w (WrPost w (wrm n1 n2 n3 x1 x2 x3 p s v)) := by
  by_cases hb : mok n1 n2 n3 = true ∧ wd s = true
  · obtain ⟨hm, hs⟩ := hb
    obtain ⟨l1, l2, l3⟩ := mok1 hm
    rcases wd_cases hs with rfl | rfl | rfl
    · by_cases ha : (p.tmod 4 != 0) = true
      · rw [show wrm n1 n2 n3 x1 x2 x3 p 4 v = (x1, x2, x3, 1) from by rw [wrm, if_pos ⟨hm, hs⟩, if_pos ha]]
        exact sWrite_mis4 b1 o1 b2 o2 b3 o3 n1 c1 n2 c2 n3 c3 x1 x2 x3 p v w h1 h2 h3 hn hv hm ha
      · have hna := ha
        have ha : (p.tmod 4 != 0) = false := by simpa using ha
        by_cases hp : p = 131072
        · subst hp
          by_cases hf : 5000 ≤ n3
          · rw [show wrm n1 n2 n3 x1 x2 x3 131072 4 v = (x1, x2, x3, 4) from by rw [wrm, if_pos ⟨hm, hs⟩, if_neg hna, if_pos rfl, if_pos hf]]
            exact sWrite_full4 b1 o1 b2 o2 b3 o3 n1 c1 n2 c2 n3 c3 x1 x2 x3 v w h1 h2 h3 hn hv hm hf
          · rw [show wrm n1 n2 n3 x1 x2 x3 131072 4 v = (x1, x2, x3 ++ [v % 256], 0) from by rw [wrm, if_pos ⟨hm, hs⟩, if_neg hna, if_pos rfl, if_neg hf]]
            exact sWrite_port4 b1 o1 b2 o2 b3 o3 n1 c1 n2 c2 n3 c3 x1 x2 x3 v w h1 h2 h3 hn hv hm (by omega)
        · by_cases hi : ins p 4 0 n1 = true
          · rw [show wrm n1 n2 n3 x1 x2 x3 p 4 v = (x1, x2, x3, 3) from by rw [wrm, if_pos ⟨hm, hs⟩, if_neg hna, if_neg hp, if_pos hi]]
            exact sWrite_flash4 b1 o1 b2 o2 b3 o3 n1 c1 n2 c2 n3 c3 x1 x2 x3 p v w h1 h2 h3 hn hv hm ha (by simpa using hp) hi
          · have hi : ins p 4 0 n1 = false := by simpa using hi
            by_cases hj : ins p 4 65536 n2 = true
            · have hj' := hj
              simp [ins] at hj'
              obtain ⟨k, hk⟩ := Int.eq_ofNat_of_zero_le (show 0 ≤ p - 65536 by omega)
              rw [show wrm n1 n2 n3 x1 x2 x3 p 4 v = (x1, put x2 k v 4, x3, 0) from by rw [wrm, if_pos ⟨hm, hs⟩, if_neg hna, if_neg hp, if_neg (by rw [hi]; simp), if_pos hj, hk]; rfl]
              exact sWrite_ram4 b1 o1 b2 o2 b3 o3 n1 c1 n2 c2 n3 c3 x1 x2 x3 k p v w h1 h2 h3 hn hv hm (by rw [Int.tmod_eq_emod_of_nonneg (by omega)] at ha; exact ha) hk (by omega)
            · have hj : ins p 4 65536 n2 = false := by simpa using hj
              rw [show wrm n1 n2 n3 x1 x2 x3 p 4 v = (x1, x2, x3, 2) from by rw [wrm, if_pos ⟨hm, hs⟩, if_neg hna, if_neg hp, if_neg (by rw [hi]; simp), if_neg (by rw [hj]; simp)]]
              exact sWrite_bus4 b1 o1 b2 o2 b3 o3 n1 c1 n2 c2 n3 c3 x1 x2 x3 p v w h1 h2 h3 hn hv hm ha (by simpa using hp) hi hj
    · by_cases ha : (p.tmod 2 != 0) = true
      · rw [show wrm n1 n2 n3 x1 x2 x3 p 2 v = (x1, x2, x3, 1) from by rw [wrm, if_pos ⟨hm, hs⟩, if_pos ha]]
        exact sWrite_mis2 b1 o1 b2 o2 b3 o3 n1 c1 n2 c2 n3 c3 x1 x2 x3 p v w h1 h2 h3 hn hv hm ha
      · have hna := ha
        have ha : (p.tmod 2 != 0) = false := by simpa using ha
        by_cases hp : p = 131072
        · subst hp
          by_cases hf : 5000 ≤ n3
          · rw [show wrm n1 n2 n3 x1 x2 x3 131072 2 v = (x1, x2, x3, 4) from by rw [wrm, if_pos ⟨hm, hs⟩, if_neg hna, if_pos rfl, if_pos hf]]
            exact sWrite_full2 b1 o1 b2 o2 b3 o3 n1 c1 n2 c2 n3 c3 x1 x2 x3 v w h1 h2 h3 hn hv hm hf
          · rw [show wrm n1 n2 n3 x1 x2 x3 131072 2 v = (x1, x2, x3 ++ [v % 256], 0) from by rw [wrm, if_pos ⟨hm, hs⟩, if_neg hna, if_pos rfl, if_neg hf]]
            exact sWrite_port2 b1 o1 b2 o2 b3 o3 n1 c1 n2 c2 n3 c3 x1 x2 x3 v w h1 h2 h3 hn hv hm (by omega)
        · by_cases hi : ins p 2 0 n1 = true
          · rw [show wrm n1 n2 n3 x1 x2 x3 p 2 v = (x1, x2, x3, 3) from by rw [wrm, if_pos ⟨hm, hs⟩, if_neg hna, if_neg hp, if_pos hi]]
            exact sWrite_flash2 b1 o1 b2 o2 b3 o3 n1 c1 n2 c2 n3 c3 x1 x2 x3 p v w h1 h2 h3 hn hv hm ha (by simpa using hp) hi
          · have hi : ins p 2 0 n1 = false := by simpa using hi
            by_cases hj : ins p 2 65536 n2 = true
            · have hj' := hj
              simp [ins] at hj'
              obtain ⟨k, hk⟩ := Int.eq_ofNat_of_zero_le (show 0 ≤ p - 65536 by omega)
              rw [show wrm n1 n2 n3 x1 x2 x3 p 2 v = (x1, put x2 k v 2, x3, 0) from by rw [wrm, if_pos ⟨hm, hs⟩, if_neg hna, if_neg hp, if_neg (by rw [hi]; simp), if_pos hj, hk]; rfl]
              exact sWrite_ram2 b1 o1 b2 o2 b3 o3 n1 c1 n2 c2 n3 c3 x1 x2 x3 k p v w h1 h2 h3 hn hv hm (by rw [Int.tmod_eq_emod_of_nonneg (by omega)] at ha; exact ha) hk (by omega)
            · have hj : ins p 2 65536 n2 = false := by simpa using hj
              rw [show wrm n1 n2 n3 x1 x2 x3 p 2 v = (x1, x2, x3, 2) from by rw [wrm, if_pos ⟨hm, hs⟩, if_neg hna, if_neg hp, if_neg (by rw [hi]; simp), if_neg (by rw [hj]; simp)]]
              exact sWrite_bus2 b1 o1 b2 o2 b3 o3 n1 c1 n2 c2 n3 c3 x1 x2 x3 p v w h1 h2 h3 hn hv hm ha (by simpa using hp) hi hj
    · by_cases ha : (p.tmod 1 != 0) = true
      · rw [tmod1] at ha
        exact absurd ha (by simp)
      · have hna := ha
        have ha : (p.tmod 1 != 0) = false := by simp
        by_cases hp : p = 131072
        · subst hp
          by_cases hf : 5000 ≤ n3
          · rw [show wrm n1 n2 n3 x1 x2 x3 131072 1 v = (x1, x2, x3, 4) from by rw [wrm, if_pos ⟨hm, hs⟩, if_neg hna, if_pos rfl, if_pos hf]]
            exact sWrite_full1 b1 o1 b2 o2 b3 o3 n1 c1 n2 c2 n3 c3 x1 x2 x3 v w h1 h2 h3 hn hv hm hf
          · rw [show wrm n1 n2 n3 x1 x2 x3 131072 1 v = (x1, x2, x3 ++ [v % 256], 0) from by rw [wrm, if_pos ⟨hm, hs⟩, if_neg hna, if_pos rfl, if_neg hf]]
            exact sWrite_port1 b1 o1 b2 o2 b3 o3 n1 c1 n2 c2 n3 c3 x1 x2 x3 v w h1 h2 h3 hn hv hm (by omega)
        · by_cases hi : ins p 1 0 n1 = true
          · rw [show wrm n1 n2 n3 x1 x2 x3 p 1 v = (x1, x2, x3, 3) from by rw [wrm, if_pos ⟨hm, hs⟩, if_neg hna, if_neg hp, if_pos hi]]
            exact sWrite_flash1 b1 o1 b2 o2 b3 o3 n1 c1 n2 c2 n3 c3 x1 x2 x3 p v w h1 h2 h3 hn hv hm ha (by simpa using hp) hi
          · have hi : ins p 1 0 n1 = false := by simpa using hi
            by_cases hj : ins p 1 65536 n2 = true
            · have hj' := hj
              simp [ins] at hj'
              obtain ⟨k, hk⟩ := Int.eq_ofNat_of_zero_le (show 0 ≤ p - 65536 by omega)
              rw [show wrm n1 n2 n3 x1 x2 x3 p 1 v = (x1, put x2 k v 1, x3, 0) from by rw [wrm, if_pos ⟨hm, hs⟩, if_neg hna, if_neg hp, if_neg (by rw [hi]; simp), if_pos hj, hk]; rfl]
              exact sWrite_ram1 b1 o1 b2 o2 b3 o3 n1 c1 n2 c2 n3 c3 x1 x2 x3 k p v w h1 h2 h3 hn hv hm (by rw [Int.tmod_eq_emod_of_nonneg (by omega)] at ha; exact ha) hk (by omega)
            · have hj : ins p 1 65536 n2 = false := by simpa using hj
              rw [show wrm n1 n2 n3 x1 x2 x3 p 1 v = (x1, x2, x3, 2) from by rw [wrm, if_pos ⟨hm, hs⟩, if_neg hna, if_neg hp, if_neg (by rw [hi]; simp), if_neg (by rw [hj]; simp)]]
              exact sWrite_bus1 b1 o1 b2 o2 b3 o3 n1 c1 n2 c2 n3 c3 x1 x2 x3 p v w h1 h2 h3 hn hv hm ha (by simpa using hp) hi hj
  · rw [show wrm n1 n2 n3 x1 x2 x3 p s v = (x1, x2, x3, 2) from by rw [wrm, if_neg hb]]
    by_cases hm : mok n1 n2 n3 = true
    · refine sWrite_bads b1 o1 b2 o2 b3 o3 n1 c1 n2 c2 n3 c3 x1 x2 x3 p s v w h1 h2 h3 hn hv hm ?_
      by_cases hs : wd s = true
      · exact absurd ⟨hm, hs⟩ hb
      · simpa using hs
    · exact sWrite_badm b1 o1 b2 o2 b3 o3 n1 c1 n2 c2 n3 c3 x1 x2 x3 p s v w h1 h2 h3 hn hv (by simpa using hm)

end Go.Proofs.YtngdgogjlpjjpadGreat

namespace Go.Proofs.YtngdgogjlpjjpadGreat
open Go.RowKit
set_option linter.unusedVariables false
set_option linter.unusedSimpArgs false
set_option maxRecDepth 100000

theorem shl_facts (d a Q : Int) (d0 : 0 ≤ d) (a0 : 0 ≤ a) (hQ : Q = (2:Int)^(a % 32).toNat) : 0 < 4294967296 / Q ∧ 4294967296 / Q ≤ 4294967296 ∧ 0 ≤ d % (4294967296 / Q) ∧ d % (4294967296 / Q) ≤ 4294967296 ∧ 0 ≤ d % (4294967296 / Q) * Q ∧ d % (4294967296 / Q) * Q ≤ 4294967295 ∧ d % (4294967296 / Q) * Q = (d * (2:Int)^(a % 32).toNat) % 4294967296 := by
  have hp := pow_pos (a % 32).toNat
  have h1 : (4294967296 : Int) = (2:Int)^(32 - (a % 32).toNat) * (2:Int)^(a % 32).toNat := by rw [← Int.pow_add, show 32 - (a % 32).toNat + (a % 32).toNat = 32 by omega]; rfl
  have h2 : (4294967296 : Int) / Q = (2:Int)^(32 - (a % 32).toNat) := by
    rw [hQ, h1]
    exact Int.mul_ediv_cancel _ (by omega)
  have hp2 := pow_pos (32 - (a % 32).toNat)
  have hs := shl_split d (a % 32).toNat (by omega)
  rw [← hQ] at hs
  have hle : (4294967296 : Int) / Q ≤ 4294967296 := by
    rw [h2, h1]
    have := Int.mul_le_mul_of_nonneg_left (show (1:Int) ≤ (2:Int)^(a % 32).toNat by omega) (show 0 ≤ (2:Int)^(32 - (a % 32).toNat) by omega)
    omega
  have hm0 : 0 ≤ d % (4294967296 / Q) := Int.emod_nonneg _ (by omega)
  have hm1 : d % (4294967296 / Q) < 4294967296 / Q := Int.emod_lt_of_pos _ (by omega)
  rw [← hQ]
  refine ⟨by omega, hle, hm0, by omega, ?_, ?_, hs⟩
  · rw [hs]; omega
  · rw [hs]; omega

set_option maxHeartbeats 1000000 in
theorem l3Alu_13 (dd aa i d a : Int) (w : World) (d0 : 0 ≤ d) (d1 : d ≤ 4294967295) (a0 : 0 ≤ a) (a1 : a ≤ 4294967295) :
    Calls Tryz.prog 87 #[.agg #[.int .i64 13, .int .i64 dd, .int .i64 aa, .int .i64 i], .int .i64 d, .int .i64 a] w fun e w' => e = .returned (.int .i64 (alu 13 i d a)) ∧ Below w.heap.size w w' := by
  have hp := pw15 (a % 16).toNat (by omega)
  have hp0 := pow_pos (a % 16).toNat
  have HP := hide (fun w => l2Power_any (a % 16) (by omega) (by omega) w)
  obtain ⟨s1, s2⟩ := pow_shift a a0
  rw [show alu 13 i d a = d / (2:Int)^(a % 32).toNat from rfl]
  generalize (2:Int)^(a % 16).toNat = P at *
  generalize (2:Int)^(a % 32).toNat = S at *
  by_cases hs : 16 ≤ a % 32
  · have HS := hide (s2 hs)
    clear s1 s2
    rw [← HS.out]
    have hz : (P * 65536 == 0) = false := by simp; omega
    go_enter Tryz.func87, Tryz.ntmps87
    go_wp2_with (go_at_call 167; refine (HP.out _).mono ?_; rintro e w' ⟨rfl, rfl⟩)
    go_ret
    exact ⟨rfl, (Below.refl _ _).alloc (Nat.le_refl _) _⟩
  · have HS := hide (s1 (by omega))
    clear s1 s2
    rw [← HS.out]
    have hz : (P == 0) = false := by simp; omega
    go_enter Tryz.func87, Tryz.ntmps87
    go_wp2_with (go_at_call 167; refine (HP.out _).mono ?_; rintro e w' ⟨rfl, rfl⟩)
    go_ret
    exact ⟨rfl, (Below.refl _ _).alloc (Nat.le_refl _) _⟩

set_option maxHeartbeats 1000000 in
theorem l3Alu_12 (dd aa i d a : Int) (w : World) (d0 : 0 ≤ d) (d1 : d ≤ 4294967295) (a0 : 0 ≤ a) (a1 : a ≤ 4294967295) :
    Calls Tryz.prog 87 #[.agg #[.int .i64 12, .int .i64 dd, .int .i64 aa, .int .i64 i], .int .i64 d, .int .i64 a] w fun e w' => e = .returned (.int .i64 (alu 12 i d a)) ∧ Below w.heap.size w w' := by
  have hp := pw15 (a % 16).toNat (by omega)
  have hp0 := pow_pos (a % 16).toNat
  have HP := hide (fun w => l2Power_any (a % 16) (by omega) (by omega) w)
  obtain ⟨s1, s2⟩ := pow_shift a a0
  rw [show alu 12 i d a = (d * (2:Int)^(a % 32).toNat) % 4294967296 from rfl]
  by_cases hs : 16 ≤ a % 32
  · obtain ⟨f1, f2, f3, f4, f5, f6, f7⟩ := shl_facts d a _ d0 a0 (s2 hs)
    have HS := hide f7
    clear s1 s2 f7
    rw [← HS.out]
    clear HS
    generalize (2:Int)^(a % 16).toNat = P at *
    have hz : (P * 65536 == 0) = false := by simp; omega
    have hz2 : (4294967296 / (P * 65536) == 0) = false := by simp; omega
    go_enter Tryz.func87, Tryz.ntmps87
    go_wp2_with (go_at_call 167; refine (HP.out _).mono ?_; rintro e w' ⟨rfl, rfl⟩)
    go_ret
    exact ⟨rfl, (Below.refl _ _).alloc (Nat.le_refl _) _⟩
  · obtain ⟨f1, f2, f3, f4, f5, f6, f7⟩ := shl_facts d a _ d0 a0 (s1 (by omega))
    have HS := hide f7
    clear s1 s2 f7
    rw [← HS.out]
    clear HS
    generalize (2:Int)^(a % 16).toNat = P at *
    have hz : (P == 0) = false := by simp; omega
    have hz2 : (4294967296 / P == 0) = false := by simp; omega
    go_enter Tryz.func87, Tryz.ntmps87
    go_wp2_with (go_at_call 167; refine (HP.out _).mono ?_; rintro e w' ⟨rfl, rfl⟩)
    go_ret
    exact ⟨rfl, (Below.refl _ _).alloc (Nat.le_refl _) _⟩

theorem l3Alu_any (op dd aa i d a : Int) (w : World) (o0 : 2 ≤ op) (o1 : op ≤ 13) (i0 : 0 ≤ i) (i1 : i ≤ 65535) (d0 : 0 ≤ d) (d1 : d ≤ 4294967295) (a0 : 0 ≤ a) (a1 : a ≤ 4294967295) :
    Calls Tryz.prog 87 #[.agg #[.int .i64 op, .int .i64 dd, .int .i64 aa, .int .i64 i], .int .i64 d, .int .i64 a] w fun e w' => e = .returned (.int .i64 (alu op i d a)) ∧ Below w.heap.size w w' := by
  have : op = 2 ∨ op = 3 ∨ op = 4 ∨ op = 5 ∨ op = 6 ∨ op = 7 ∨ op = 8 ∨ op = 9 ∨ op = 10 ∨ op = 11 ∨ op = 12 ∨ op = 13 := by omega
  rcases this with rfl | rfl | rfl | rfl | rfl | rfl | rfl | rfl | rfl | rfl | rfl | rfl
  · exact l3Alu_2 dd aa i d a w i0 i1 d0 d1 a0 a1
  · exact l3Alu_3 dd aa i d a w i0 i1 d0 d1 a0 a1
  · exact l3Alu_4 dd aa i d a w i0 i1 d0 d1 a0 a1
  · exact l3Alu_5 dd aa i d a w i0 i1 d0 d1 a0 a1
  · exact l3Alu_6 dd aa i d a w i0 i1 d0 d1 a0 a1
  · exact l3Alu_7 dd aa i d a w i0 i1 d0 d1 a0 a1
  · exact l3Alu_8 dd aa i d a w i0 i1 d0 d1 a0 a1
  · exact l3Alu_9 dd aa i d a w i0 i1 d0 d1 a0 a1
  · exact l3Alu_10 dd aa i d a w i0 i1 d0 d1 a0 a1
  · exact l3Alu_11 dd aa i d a w i0 i1 d0 d1 a0 a1
  · exact l3Alu_12 dd aa i d a w d0 d1 a0 a1
  · exact l3Alu_13 dd aa i d a w d0 d1 a0 a1
end Go.Proofs.YtngdgogjlpjjpadGreat

namespace Go.Proofs.YtngdgogjlpjjpadGreat
open Go.RowKit
set_option linter.unusedVariables false

theorem own_some {w : World} {base n : Nat} {v : Value} {xs : List Value} (h : w.ownsRow base 5 1 v n xs) (hn : v ≠ .slice none 0 0) : ∃ g cap, v = .slice (some ⟨g, 0, none⟩) n cap := by
  obtain ⟨hl, ⟨h0, _⟩ | ⟨g, cap, cur, hv, _⟩⟩ := h
  · exact absurd h0 hn
  · exact ⟨g, cap, hv⟩

set_option maxHeartbeats 1000000 in
theorem l1Bytes_some (b off n cap : Nat) (zs : List Int) (w : World) (h : BS w (some ⟨b, off, none⟩) n cap zs) (hn : n ≤ 1048576) :
    Calls Tryz.prog 160 #[.slice (some ⟨b, off, none⟩) n cap] w fun e w' => ∃ g cap', e = .returned (.slice (some ⟨g, 0, none⟩) n cap') ∧ OB w' w.heap.size (.slice (some ⟨g, 0, none⟩) n cap') zs ∧ Below w.heap.size w w' := by
  obtain ⟨i0, hi, hz0, hz1, hz2⟩ := info_parts info8
  have hl := h.1
  have h' := h.below ((Below.refl w.heap.size w).alloc (Nat.le_refl _) (.cells #[] 5))
  have hnews := hide (bs_news h')
  have hone := hide (ints_oneCell .u8 zs)
  have hown := hide (own_empty w)
  have hlen := hide (show (zs.map (Value.int .u8)).length = n * 1 by simp; omega)
  go_enter Tryz.func160, Tryz.ntmps160
  go_wp2_with (at_builtin; refine wpList_append_own _ rfl _ _ 22 rfl w.heap.size 5 i0 (.int .u8 0) 1 1 Tryz.underlying22 hi hz0 hz1 hz2 rfl (by decide) _ 0 [] rfl hown.out ⟨b, off, none⟩ n cap (zs.map (Value.int .u8)) rfl hlen.out hnews.out hone.out (by unfold maxLen; omega) (by omega) (by simp) ?_; intro v' w1 hown1 hgr1 hnil)
  simp only [Nat.zero_add, List.nil_append] at hown1
  have hex := own_some hown1 (fun e => by have h1 := (hnil.1 e).1; injection h1 with h2 _ _; injection h2)
  clear hnil
  go_ret
  obtain ⟨g', cap', he⟩ := hex
  refine ⟨g', cap', by rw [← he]; rfl, ⟨?_, h.2.2.1⟩, ?_⟩
  · rw [hl, ← he]
    exact hown1
  · exact below_grown' ((Below.refl w.heap.size w).alloc (Nat.le_refl _) _) hgr1 (by simp) (Nat.le_refl _)

set_option maxHeartbeats 2000000 in
theorem l1Copy_some (b1 o1 b2 o2 b3 o3 n1 c1 n2 c2 n3 c3 : Nat) (x1 x2 x3 : List Int) (w : World) (h1 : BS w (some ⟨b1, o1, none⟩) n1 c1 x1) (h2 : BS w (some ⟨b2, o2, none⟩) n2 c2 x2) (h3 : BS w (some ⟨b3, o3, none⟩) n3 c3 x3) (hn : n1 + n2 + n3 ≤ 1048576) :
    Calls Tryz.prog 79 #[.agg #[.slice (some ⟨b1, o1, none⟩) n1 c1, .slice (some ⟨b2, o2, none⟩) n2 c2, .slice (some ⟨b3, o3, none⟩) n3 c3]] w fun e w' => ∃ g1 d1 g2 d2 g3 d3, e = .returned (.agg #[.slice (some ⟨g1, 0, none⟩) n1 d1, .slice (some ⟨g2, 0, none⟩) n2 d2, .slice (some ⟨g3, 0, none⟩) n3 d3]) ∧ Own3 w' w.heap.size (.slice (some ⟨g1, 0, none⟩) n1 d1) (.slice (some ⟨g2, 0, none⟩) n2 d2) (.slice (some ⟨g3, 0, none⟩) n3 d3) x1 x2 x3 ∧ Below w.heap.size w w' := by
  have hB0 : Below w.heap.size w ((w.alloc (.cells #[.slice (some ⟨b1, o1, none⟩) n1 c1, .slice (some ⟨b2, o2, none⟩) n2 c2, .slice (some ⟨b3, o3, none⟩) n3 c3] 38)).alloc (.cells #[.slice none 0 0, .slice none 0 0, .slice none 0 0] 38)) :=
    ((Below.refl _ _).alloc (Nat.le_refl _) _).alloc (by simp) _
  have kb := (Blk.new w #[.slice (some ⟨b1, o1, none⟩) n1 c1, .slice (some ⟨b2, o2, none⟩) n2 c2, .slice (some ⟨b3, o3, none⟩) n3 c3] 38).alloc (.cells #[.slice none 0 0, .slice none 0 0, .slice none 0 0] 38)
  have kr := Blk.new (w.alloc (.cells #[.slice (some ⟨b1, o1, none⟩) n1 c1, .slice (some ⟨b2, o2, none⟩) n2 c2, .slice (some ⟨b3, o3, none⟩) n3 c3] 38)) #[.slice none 0 0, .slice none 0 0, .slice none 0 0] 38
  simp only [World.size_alloc] at kr
  have B1 := h1.below hB0
  have B2 := h2.below hB0
  have B3 := h3.below hB0
  clear h1 h2 h3
  go_enter Tryz.func79, Tryz.ntmps79
  go_wp2
  go_region_held3 (fun w' => w'.cell? ⟨w.heap.size, 0, none⟩ = some (.slice (some ⟨b1, o1, none⟩) n1 c1) ∧ w'.cell? ⟨w.heap.size, 1, none⟩ = some (.slice (some ⟨b2, o2, none⟩) n2 c2) ∧ w'.cell? ⟨w.heap.size, 2, none⟩ = some (.slice (some ⟨b3, o3, none⟩) n3 c3)) (go_keep)
    (first
      | (go_at_call_of 160 (Value.slice (some ⟨b1, o1, none⟩) n1 c1); refine (l1Bytes_some b1 o1 n1 c1 x1 _ (by exact B1) (by omega)).mono ?_; rintro e w1 ⟨g1, d1, rfl, p1, hb1⟩; replace hb1 := undrew hb1; obtain ⟨q1, q2, q3, q4⟩ := (kb.below hb1).three)
      | (go_at_call_of 160 (Value.slice (some ⟨b2, o2, none⟩) n2 c2); refine (l1Bytes_some b2 o2 n2 c2 x2 _ (B2.below hb1) (by omega)).mono ?_; rintro e w2 ⟨g2, d2, rfl, p2, hb2⟩; have hb12 := hb1.trans (hb2.mono hb1.size); obtain ⟨q1, q2, q3, q4⟩ := (kb.below hb12).three)
      | (go_at_call_of 160 (Value.slice (some ⟨b3, o3, none⟩) n3 c3); refine (l1Bytes_some b3 o3 n3 c3 x3 _ (B3.below hb12) (by omega)).mono ?_; rintro e w3 ⟨g3, d3, rfl, p3, hb3⟩; have hb13 := hb12.trans (hb3.mono hb12.size); obtain ⟨q1, q2, q3, q4⟩ := (kb.below hb13).three; obtain ⟨q5, q6, q7, q8⟩ := (kr.below hb13).three))
  have s1 := hb1.size
  have s2 := hb2.size
  have s3 := hb3.size
  simp only [heap_drew, World.size_alloc] at s1 p1
  go_wp2
  refine bodyPost_ret (v := .agg #[.slice (some ⟨g1, 0, none⟩) n1 d1, .slice (some ⟨g2, 0, none⟩) n2 d2, .slice (some ⟨g3, 0, none⟩) n3 d3]) (by simp [results, Tryz.results79, go_sem, q5, q6, q7]) rfl ⟨g1, d1, g2, d2, g3, d3, rfl, ⟨?_, ?_, ?_, ?_, ?_, ?_⟩, ?_⟩
  · exact (((((p1.below hb2).below hb3).other _ _ (by dsimp only; omega)).other _ _ (by dsimp only; omega)).other _ _ (by dsimp only; omega)).mono (by omega)
  · exact ((((p2.below hb3).other _ _ (by dsimp only; omega)).other _ _ (by dsimp only; omega)).other _ _ (by dsimp only; omega)).mono (by omega)
  · exact (((p3.other _ _ (by dsimp only; omega)).other _ _ (by dsimp only; omega)).other _ _ (by dsimp only; omega)).mono (by omega)
  · intro k j hk hj
    have := p1.lt k hk
    have := p2.lt j hj
    omega
  · intro k j hk hj
    have := p1.lt k hk
    have := p3.lt j hj
    omega
  · intro k j hk hj
    have := p2.lt k hk
    have := p3.lt j hj
    omega
  · exact (((hB0.trans (hb13.mono (by simp; omega))).setCell (by dsimp only; omega) _).setCell (by dsimp only; omega) _).setCell (by dsimp only; omega) _
end Go.Proofs.YtngdgogjlpjjpadGreat
