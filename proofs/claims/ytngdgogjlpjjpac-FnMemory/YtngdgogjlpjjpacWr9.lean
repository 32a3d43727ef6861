import Derived.Test.YtngdgogjlpjjpacWr8
namespace Go.Proofs.Ytngdgogjlpjjpac
open Go.RowKit
set_option linter.unusedVariables false

theorem sWrite_any (b1 o1 b2 o2 b3 o3 n1 c1 n2 c2 n3 c3 : Nat) (x1 x2 x3 : List Int) (p s v : Int) (w : World) (h1 : BS w (some ⟨b1, o1, none⟩) n1 c1 x1) (h2 : BS w (some ⟨b2, o2, none⟩) n2 c2 x2) (h3 : BS w (some ⟨b3, o3, none⟩) n3 c3 x3) (hn : n1 + n2 + n3 ≤ 1048576) (hv : -9223372036854775808 ≤ v ∧ v ≤ 9223372036854775807) (hmax : p ≤ 9223372036854775807) :
    Calls Try.prog 9 #[.agg #[.slice (some ⟨b1, o1, none⟩) n1 c1, .slice (some ⟨b2, o2, none⟩) n2 c2, .slice (some ⟨b3, o3, none⟩) n3 c3], .int .i64 p, .int .i64 s, .int .i64 v] w (WrPost w (wrm n1 n2 n3 x1 x2 x3 p s v)) := by
  by_cases hb : mok n1 n2 n3 = true ∧ wd s = true
  · obtain ⟨hm, hs⟩ := hb
    obtain ⟨l1, l2, l3⟩ := mok1 hm
    rcases wd_cases hs with rfl | rfl | rfl
    · by_cases ha : (p.tmod 4 != 0) = true
      · rw [show wrm n1 n2 n3 x1 x2 x3 p 4 v = (x1, x2, x3, 1) from by rw [wrm, if_pos ⟨hm, hs⟩, if_pos ha]]
        exact sWrite_mis4 b1 o1 b2 o2 b3 o3 n1 c1 n2 c2 n3 c3 x1 x2 x3 p v w h1 h2 h3 hn hv hm ha
      · have hna := ha
        have ha : (p.tmod 4 != 0) = false := by simpa using ha
        by_cases hp : p = 131072
        · subst hp
          by_cases hf : 5000 ≤ n3
          · rw [show wrm n1 n2 n3 x1 x2 x3 131072 4 v = (x1, x2, x3, 4) from by rw [wrm, if_pos ⟨hm, hs⟩, if_neg hna, if_pos rfl, if_pos hf]]
            exact sWrite_full4 b1 o1 b2 o2 b3 o3 n1 c1 n2 c2 n3 c3 x1 x2 x3 v w h1 h2 h3 hn hv hm hf
          · rw [show wrm n1 n2 n3 x1 x2 x3 131072 4 v = (x1, x2, x3 ++ [v % 256], 0) from by rw [wrm, if_pos ⟨hm, hs⟩, if_neg hna, if_pos rfl, if_neg hf]]
            exact sWrite_port4 b1 o1 b2 o2 b3 o3 n1 c1 n2 c2 n3 c3 x1 x2 x3 v w h1 h2 h3 hn hv hm (by omega)
        · by_cases hi : ins p 4 0 n1 = true
          · rw [show wrm n1 n2 n3 x1 x2 x3 p 4 v = (x1, x2, x3, 3) from by rw [wrm, if_pos ⟨hm, hs⟩, if_neg hna, if_neg hp, if_pos hi]]
            exact sWrite_flash4 b1 o1 b2 o2 b3 o3 n1 c1 n2 c2 n3 c3 x1 x2 x3 p v w h1 h2 h3 hn hv hm ha (by simpa using hp) hi
          · have hi : ins p 4 0 n1 = false := by simpa using hi
            by_cases hj : ins p 4 65536 n2 = true
            · have hj' := hj
              simp [ins] at hj'
              obtain ⟨k, hk⟩ := Int.eq_ofNat_of_zero_le (show 0 ≤ p - 65536 by omega)
              rw [show wrm n1 n2 n3 x1 x2 x3 p 4 v = (x1, put x2 k v 4, x3, 0) from by rw [wrm, if_pos ⟨hm, hs⟩, if_neg hna, if_neg hp, if_neg (by rw [hi]; simp), if_pos hj, hk]; rfl]
              exact sWrite_ram4 b1 o1 b2 o2 b3 o3 n1 c1 n2 c2 n3 c3 x1 x2 x3 k p v w h1 h2 h3 hn hv hm (by rw [Int.tmod_eq_emod_of_nonneg (by omega)] at ha; exact ha) hk (by omega)
            · have hj : ins p 4 65536 n2 = false := by simpa using hj
              rw [show wrm n1 n2 n3 x1 x2 x3 p 4 v = (x1, x2, x3, 2) from by rw [wrm, if_pos ⟨hm, hs⟩, if_neg hna, if_neg hp, if_neg (by rw [hi]; simp), if_neg (by rw [hj]; simp)]]
              exact sWrite_bus4 b1 o1 b2 o2 b3 o3 n1 c1 n2 c2 n3 c3 x1 x2 x3 p v w h1 h2 h3 hn hv hm ha (by simpa using hp) hi hj
    · by_cases ha : (p.tmod 2 != 0) = true
      · rw [show wrm n1 n2 n3 x1 x2 x3 p 2 v = (x1, x2, x3, 1) from by rw [wrm, if_pos ⟨hm, hs⟩, if_pos ha]]
        exact sWrite_mis2 b1 o1 b2 o2 b3 o3 n1 c1 n2 c2 n3 c3 x1 x2 x3 p v w h1 h2 h3 hn hv hm ha
      · have hna := ha
        have ha : (p.tmod 2 != 0) = false := by simpa using ha
        by_cases hp : p = 131072
        · subst hp
          by_cases hf : 5000 ≤ n3
          · rw [show wrm n1 n2 n3 x1 x2 x3 131072 2 v = (x1, x2, x3, 4) from by rw [wrm, if_pos ⟨hm, hs⟩, if_neg hna, if_pos rfl, if_pos hf]]
            exact sWrite_full2 b1 o1 b2 o2 b3 o3 n1 c1 n2 c2 n3 c3 x1 x2 x3 v w h1 h2 h3 hn hv hm hf
          · rw [show wrm n1 n2 n3 x1 x2 x3 131072 2 v = (x1, x2, x3 ++ [v % 256], 0) from by rw [wrm, if_pos ⟨hm, hs⟩, if_neg hna, if_pos rfl, if_neg hf]]
            exact sWrite_port2 b1 o1 b2 o2 b3 o3 n1 c1 n2 c2 n3 c3 x1 x2 x3 v w h1 h2 h3 hn hv hm (by omega)
        · by_cases hi : ins p 2 0 n1 = true
          · rw [show wrm n1 n2 n3 x1 x2 x3 p 2 v = (x1, x2, x3, 3) from by rw [wrm, if_pos ⟨hm, hs⟩, if_neg hna, if_neg hp, if_pos hi]]
            exact sWrite_flash2 b1 o1 b2 o2 b3 o3 n1 c1 n2 c2 n3 c3 x1 x2 x3 p v w h1 h2 h3 hn hv hm ha (by simpa using hp) hi
          · have hi : ins p 2 0 n1 = false := by simpa using hi
            by_cases hj : ins p 2 65536 n2 = true
            · have hj' := hj
              simp [ins] at hj'
              obtain ⟨k, hk⟩ := Int.eq_ofNat_of_zero_le (show 0 ≤ p - 65536 by omega)
              rw [show wrm n1 n2 n3 x1 x2 x3 p 2 v = (x1, put x2 k v 2, x3, 0) from by rw [wrm, if_pos ⟨hm, hs⟩, if_neg hna, if_neg hp, if_neg (by rw [hi]; simp), if_pos hj, hk]; rfl]
              exact sWrite_ram2 b1 o1 b2 o2 b3 o3 n1 c1 n2 c2 n3 c3 x1 x2 x3 k p v w h1 h2 h3 hn hv hm (by rw [Int.tmod_eq_emod_of_nonneg (by omega)] at ha; exact ha) hk (by omega)
            · have hj : ins p 2 65536 n2 = false := by simpa using hj
              rw [show wrm n1 n2 n3 x1 x2 x3 p 2 v = (x1, x2, x3, 2) from by rw [wrm, if_pos ⟨hm, hs⟩, if_neg hna, if_neg hp, if_neg (by rw [hi]; simp), if_neg (by rw [hj]; simp)]]
              exact sWrite_bus2 b1 o1 b2 o2 b3 o3 n1 c1 n2 c2 n3 c3 x1 x2 x3 p v w h1 h2 h3 hn hv hm ha (by simpa using hp) hi hj
    · by_cases ha : (p.tmod 1 != 0) = true
      · rw [tmod1] at ha
        exact absurd ha (by simp)
      · have hna := ha
        have ha : (p.tmod 1 != 0) = false := by simp
        by_cases hp : p = 131072
        · subst hp
          by_cases hf : 5000 ≤ n3
          · rw [show wrm n1 n2 n3 x1 x2 x3 131072 1 v = (x1, x2, x3, 4) from by rw [wrm, if_pos ⟨hm, hs⟩, if_neg hna, if_pos rfl, if_pos hf]]
            exact sWrite_full1 b1 o1 b2 o2 b3 o3 n1 c1 n2 c2 n3 c3 x1 x2 x3 v w h1 h2 h3 hn hv hm hf
          · rw [show wrm n1 n2 n3 x1 x2 x3 131072 1 v = (x1, x2, x3 ++ [v % 256], 0) from by rw [wrm, if_pos ⟨hm, hs⟩, if_neg hna, if_pos rfl, if_neg hf]]
            exact sWrite_port1 b1 o1 b2 o2 b3 o3 n1 c1 n2 c2 n3 c3 x1 x2 x3 v w h1 h2 h3 hn hv hm (by omega)
        · by_cases hi : ins p 1 0 n1 = true
          · rw [show wrm n1 n2 n3 x1 x2 x3 p 1 v = (x1, x2, x3, 3) from by rw [wrm, if_pos ⟨hm, hs⟩, if_neg hna, if_neg hp, if_pos hi]]
            exact sWrite_flash1 b1 o1 b2 o2 b3 o3 n1 c1 n2 c2 n3 c3 x1 x2 x3 p v w h1 h2 h3 hn hv hm ha (by simpa using hp) hi
          · have hi : ins p 1 0 n1 = false := by simpa using hi
            by_cases hj : ins p 1 65536 n2 = true
            · have hj' := hj
              simp [ins] at hj'
              obtain ⟨k, hk⟩ := Int.eq_ofNat_of_zero_le (show 0 ≤ p - 65536 by omega)
              rw [show wrm n1 n2 n3 x1 x2 x3 p 1 v = (x1, put x2 k v 1, x3, 0) from by rw [wrm, if_pos ⟨hm, hs⟩, if_neg hna, if_neg hp, if_neg (by rw [hi]; simp), if_pos hj, hk]; rfl]
              exact sWrite_ram1 b1 o1 b2 o2 b3 o3 n1 c1 n2 c2 n3 c3 x1 x2 x3 k p v w h1 h2 h3 hn hv hm (by rw [Int.tmod_eq_emod_of_nonneg (by omega)] at ha; exact ha) hk (by omega)
            · have hj : ins p 1 65536 n2 = false := by simpa using hj
              rw [show wrm n1 n2 n3 x1 x2 x3 p 1 v = (x1, x2, x3, 2) from by rw [wrm, if_pos ⟨hm, hs⟩, if_neg hna, if_neg hp, if_neg (by rw [hi]; simp), if_neg (by rw [hj]; simp)]]
              exact sWrite_bus1 b1 o1 b2 o2 b3 o3 n1 c1 n2 c2 n3 c3 x1 x2 x3 p v w h1 h2 h3 hn hv hm ha (by simpa using hp) hi hj
  · rw [show wrm n1 n2 n3 x1 x2 x3 p s v = (x1, x2, x3, 2) from by rw [wrm, if_neg hb]]
    by_cases hm : mok n1 n2 n3 = true
    · refine sWrite_bads b1 o1 b2 o2 b3 o3 n1 c1 n2 c2 n3 c3 x1 x2 x3 p s v w h1 h2 h3 hn hv hm ?_
      by_cases hs : wd s = true
      · exact absurd ⟨hm, hs⟩ hb
      · simpa using hs
    · exact sWrite_badm b1 o1 b2 o2 b3 o3 n1 c1 n2 c2 n3 c3 x1 x2 x3 p s v w h1 h2 h3 hn hv (by simpa using hm)

end Go.Proofs.Ytngdgogjlpjjpac
