import Derived.Test.YtngdgogjlpjjpacRd4
namespace Go.Proofs.Ytngdgogjlpjjpac
open Go.RowKit
set_option linter.unusedVariables false

/-- WHAT Read ANSWERS. -/
def rd (n1 n2 n3 : Nat) (x1 x2 : List Int) (p s : Int) : Int × Int :=
  if mok n1 n2 n3 = true ∧ wd s = true then
    if (p.tmod s != 0) = true then (0, 1)
    else if p = 131072 then (0, 4)
      else if ins p s 0 n1 = true then (low ((x1.drop p.toNat).take s.toNat), 0)
      else if ins p s 65536 n2 = true then (low ((x2.drop (p - 65536).toNat).take s.toNat), 0) else (0, 2)
  else (0, 2)
theorem rd_pair {x y : Int} {r : Int × Int} (h : r = (x, y)) : Value.tuple #[.int .i64 r.1, .int .i64 r.2] = .tuple #[.int .i64 x, .int .i64 y] := by rw [h]
theorem wd_cases {s : Int} (h : wd s = true) : s = 4 ∨ s = 2 ∨ s = 1 := by simp [wd] at h; omega
theorem tmod1 (p : Int) : (p.tmod 1 != 0) = false := by simp
theorem BS.some {w : World} {a : Option Addr} {n cap : Nat} {zs : List Int} (h : BS w a n cap zs) (hn : n ≠ 0) : ∃ b off, a = Option.some ⟨b, off, none⟩ := by
  obtain ⟨b, off, e, _⟩ := h.2.2.2.1 hn
  exact ⟨b, off, e⟩

theorem sRead_any (a1 a2 a3 : Option Addr) (n1 c1 n2 c2 n3 c3 : Nat) (x1 x2 x3 : List Int) (p s : Int) (w : World) (h1 : BS w a1 n1 c1 x1) (h2 : BS w a2 n2 c2 x2) (hmax : p ≤ 9223372036854775807) :
    Calls Try.prog 14 #[.agg #[.slice a1 n1 c1, .slice a2 n2 c2, .slice a3 n3 c3], .int .i64 p, .int .i64 s] w fun e w' => e = .returned (.tuple #[.int .i64 (rd n1 n2 n3 x1 x2 p s).1, .int .i64 (rd n1 n2 n3 x1 x2 p s).2]) ∧ Below w.heap.size w w' := by
  by_cases hb : mok n1 n2 n3 = true ∧ wd s = true
  · obtain ⟨hm, hs⟩ := hb
    obtain ⟨l1, l2, l3⟩ := mok1 hm
    rcases wd_cases hs with rfl | rfl | rfl
    · by_cases ha : (p.tmod 4 != 0) = true
      · rw [rd_pair (x := 0) (y := 1) (by rw [rd, if_pos ⟨hm, hs⟩, if_pos ha])]
        exact sRead_mis4 a1 a2 a3 p n1 c1 n2 c2 n3 c3 w hm ha
      · have hna := ha
        have ha : (p.tmod 4 != 0) = false := by simpa using ha
        by_cases hp : p = 131072
        · subst hp
          rw [rd_pair (x := 0) (y := 4) (by rw [rd, if_pos ⟨hm, hs⟩, if_neg hna, if_pos rfl])]
          exact sRead_port4 a1 a2 a3 n1 c1 n2 c2 n3 c3 w hm
        · by_cases hi : ins p 4 0 n1 = true
          · rw [rd_pair (by rw [rd, if_pos ⟨hm, hs⟩, if_neg hna, if_neg hp, if_pos hi])]
            have hi' := hi
            simp [ins] at hi'
            obtain ⟨k, rfl⟩ := Int.eq_ofNat_of_zero_le hi'.1
            obtain ⟨b, off, rfl⟩ := h1.some (by omega)
            exact sRead_flash4 b off a2 a3 x1 k n1 c1 n2 c2 n3 c3 w hm h1 (by rw [Int.tmod_eq_emod_of_nonneg (by omega)] at ha; exact ha) (by omega)
          · have hi : ins p 4 0 n1 = false := by simpa using hi
            by_cases hj : ins p 4 65536 n2 = true
            · rw [rd_pair (by rw [rd, if_pos ⟨hm, hs⟩, if_neg hna, if_neg hp, if_neg (by rw [hi]; simp), if_pos hj])]
              have hj' := hj
              simp [ins] at hj'
              obtain ⟨k, hk⟩ := Int.eq_ofNat_of_zero_le (show 0 ≤ p - 65536 by omega)
              obtain ⟨b, off, rfl⟩ := h2.some (by omega)
              rw [hk]
              exact sRead_ram4 b off a1 a3 x2 k p n1 c1 n2 c2 n3 c3 w hm h2 hk (by rw [Int.tmod_eq_emod_of_nonneg (by omega)] at ha; exact ha) (by omega)
            · have hj : ins p 4 65536 n2 = false := by simpa using hj
              rw [rd_pair (x := 0) (y := 2) (by rw [rd, if_pos ⟨hm, hs⟩, if_neg hna, if_neg hp, if_neg (by rw [hi]; simp), if_neg (by rw [hj]; simp)])]
              exact sRead_none4 a1 a2 a3 p n1 c1 n2 c2 n3 c3 w hm ha (by simpa using hp) hi hj
    · by_cases ha : (p.tmod 2 != 0) = true
      · rw [rd_pair (x := 0) (y := 1) (by rw [rd, if_pos ⟨hm, hs⟩, if_pos ha])]
        exact sRead_mis2 a1 a2 a3 p n1 c1 n2 c2 n3 c3 w hm ha
      · have hna := ha
        have ha : (p.tmod 2 != 0) = false := by simpa using ha
        by_cases hp : p = 131072
        · subst hp
          rw [rd_pair (x := 0) (y := 4) (by rw [rd, if_pos ⟨hm, hs⟩, if_neg hna, if_pos rfl])]
          exact sRead_port2 a1 a2 a3 n1 c1 n2 c2 n3 c3 w hm
        · by_cases hi : ins p 2 0 n1 = true
          · rw [rd_pair (by rw [rd, if_pos ⟨hm, hs⟩, if_neg hna, if_neg hp, if_pos hi])]
            have hi' := hi
            simp [ins] at hi'
            obtain ⟨k, rfl⟩ := Int.eq_ofNat_of_zero_le hi'.1
            obtain ⟨b, off, rfl⟩ := h1.some (by omega)
            exact sRead_flash2 b off a2 a3 x1 k n1 c1 n2 c2 n3 c3 w hm h1 (by rw [Int.tmod_eq_emod_of_nonneg (by omega)] at ha; exact ha) (by omega)
          · have hi : ins p 2 0 n1 = false := by simpa using hi
            by_cases hj : ins p 2 65536 n2 = true
            · rw [rd_pair (by rw [rd, if_pos ⟨hm, hs⟩, if_neg hna, if_neg hp, if_neg (by rw [hi]; simp), if_pos hj])]
              have hj' := hj
              simp [ins] at hj'
              obtain ⟨k, hk⟩ := Int.eq_ofNat_of_zero_le (show 0 ≤ p - 65536 by omega)
              obtain ⟨b, off, rfl⟩ := h2.some (by omega)
              rw [hk]
              exact sRead_ram2 b off a1 a3 x2 k p n1 c1 n2 c2 n3 c3 w hm h2 hk (by rw [Int.tmod_eq_emod_of_nonneg (by omega)] at ha; exact ha) (by omega)
            · have hj : ins p 2 65536 n2 = false := by simpa using hj
              rw [rd_pair (x := 0) (y := 2) (by rw [rd, if_pos ⟨hm, hs⟩, if_neg hna, if_neg hp, if_neg (by rw [hi]; simp), if_neg (by rw [hj]; simp)])]
              exact sRead_none2 a1 a2 a3 p n1 c1 n2 c2 n3 c3 w hm ha (by simpa using hp) hi hj
    · by_cases ha : (p.tmod 1 != 0) = true
      · rw [tmod1] at ha
        exact absurd ha (by simp)
      · have hna := ha
        have ha : (p.tmod 1 != 0) = false := by simp
        by_cases hp : p = 131072
        · subst hp
          rw [rd_pair (x := 0) (y := 4) (by rw [rd, if_pos ⟨hm, hs⟩, if_neg hna, if_pos rfl])]
          exact sRead_port1 a1 a2 a3 n1 c1 n2 c2 n3 c3 w hm
        · by_cases hi : ins p 1 0 n1 = true
          · rw [rd_pair (by rw [rd, if_pos ⟨hm, hs⟩, if_neg hna, if_neg hp, if_pos hi])]
            have hi' := hi
            simp [ins] at hi'
            obtain ⟨k, rfl⟩ := Int.eq_ofNat_of_zero_le hi'.1
            obtain ⟨b, off, rfl⟩ := h1.some (by omega)
            exact sRead_flash1 b off a2 a3 x1 k n1 c1 n2 c2 n3 c3 w hm h1 (by rw [Int.tmod_eq_emod_of_nonneg (by omega)] at ha; exact ha) (by omega)
          · have hi : ins p 1 0 n1 = false := by simpa using hi
            by_cases hj : ins p 1 65536 n2 = true
            · rw [rd_pair (by rw [rd, if_pos ⟨hm, hs⟩, if_neg hna, if_neg hp, if_neg (by rw [hi]; simp), if_pos hj])]
              have hj' := hj
              simp [ins] at hj'
              obtain ⟨k, hk⟩ := Int.eq_ofNat_of_zero_le (show 0 ≤ p - 65536 by omega)
              obtain ⟨b, off, rfl⟩ := h2.some (by omega)
              rw [hk]
              exact sRead_ram1 b off a1 a3 x2 k p n1 c1 n2 c2 n3 c3 w hm h2 hk (by rw [Int.tmod_eq_emod_of_nonneg (by omega)] at ha; exact ha) (by omega)
            · have hj : ins p 1 65536 n2 = false := by simpa using hj
              rw [rd_pair (x := 0) (y := 2) (by rw [rd, if_pos ⟨hm, hs⟩, if_neg hna, if_neg hp, if_neg (by rw [hi]; simp), if_neg (by rw [hj]; simp)])]
              exact sRead_none1 a1 a2 a3 p n1 c1 n2 c2 n3 c3 w hm ha (by simpa using hp) hi hj
  · rw [rd_pair (x := 0) (y := 2) (by rw [rd, if_neg hb])]
    refine sRead_bad a1 a2 a3 n1 c1 n2 c2 n3 c3 p s w ?_
    by_cases hm : mok n1 n2 n3 = true
    · right; by_cases hs : wd s = true
      · exact absurd ⟨hm, hs⟩ hb
      · simpa using hs
    · left; simpa using hm

theorem iRead_any (a1 a2 a3 : Option Addr) (n1 c1 n2 c2 n3 c3 : Nat) (x1 x2 x3 : List Int) (p s : Int) (w : World) (h1 : BS w a1 n1 c1 x1) (h2 : BS w a2 n2 c2 x2) (hmax : p ≤ 9223372036854775807) :
    Calls Try.prog 15 #[.agg #[.slice a1 n1 c1, .slice a2 n2 c2, .slice a3 n3 c3], .int .i64 p, .int .i64 s] w fun e w' => e = .returned (.tuple #[.int .i64 (rd n1 n2 n3 x1 x2 p s).1, .int .i64 (rd n1 n2 n3 x1 x2 p s).2]) ∧ Below w.heap.size w w' := by
  by_cases hb : mok n1 n2 n3 = true ∧ wd s = true
  · obtain ⟨hm, hs⟩ := hb
    obtain ⟨l1, l2, l3⟩ := mok1 hm
    rcases wd_cases hs with rfl | rfl | rfl
    · by_cases ha : (p.tmod 4 != 0) = true
      · rw [rd_pair (x := 0) (y := 1) (by rw [rd, if_pos ⟨hm, hs⟩, if_pos ha])]
        exact iRead_mis4 a1 a2 a3 p n1 c1 n2 c2 n3 c3 w hm ha
      · have hna := ha
        have ha : (p.tmod 4 != 0) = false := by simpa using ha
        by_cases hp : p = 131072
        · subst hp
          rw [rd_pair (x := 0) (y := 4) (by rw [rd, if_pos ⟨hm, hs⟩, if_neg hna, if_pos rfl])]
          exact iRead_port4 a1 a2 a3 n1 c1 n2 c2 n3 c3 w hm
        · by_cases hi : ins p 4 0 n1 = true
          · rw [rd_pair (by rw [rd, if_pos ⟨hm, hs⟩, if_neg hna, if_neg hp, if_pos hi])]
            have hi' := hi
            simp [ins] at hi'
            obtain ⟨k, rfl⟩ := Int.eq_ofNat_of_zero_le hi'.1
            obtain ⟨b, off, rfl⟩ := h1.some (by omega)
            exact iRead_flash4 b off a2 a3 x1 k n1 c1 n2 c2 n3 c3 w hm h1 (by rw [Int.tmod_eq_emod_of_nonneg (by omega)] at ha; exact ha) (by omega)
          · have hi : ins p 4 0 n1 = false := by simpa using hi
            by_cases hj : ins p 4 65536 n2 = true
            · rw [rd_pair (by rw [rd, if_pos ⟨hm, hs⟩, if_neg hna, if_neg hp, if_neg (by rw [hi]; simp), if_pos hj])]
              have hj' := hj
              simp [ins] at hj'
              obtain ⟨k, hk⟩ := Int.eq_ofNat_of_zero_le (show 0 ≤ p - 65536 by omega)
              obtain ⟨b, off, rfl⟩ := h2.some (by omega)
              rw [hk]
              exact iRead_ram4 b off a1 a3 x2 k p n1 c1 n2 c2 n3 c3 w hm h2 hk (by rw [Int.tmod_eq_emod_of_nonneg (by omega)] at ha; exact ha) (by omega)
            · have hj : ins p 4 65536 n2 = false := by simpa using hj
              rw [rd_pair (x := 0) (y := 2) (by rw [rd, if_pos ⟨hm, hs⟩, if_neg hna, if_neg hp, if_neg (by rw [hi]; simp), if_neg (by rw [hj]; simp)])]
              exact iRead_none4 a1 a2 a3 p n1 c1 n2 c2 n3 c3 w hm hmax ha (by simpa using hp) hi hj
    · by_cases ha : (p.tmod 2 != 0) = true
      · rw [rd_pair (x := 0) (y := 1) (by rw [rd, if_pos ⟨hm, hs⟩, if_pos ha])]
        exact iRead_mis2 a1 a2 a3 p n1 c1 n2 c2 n3 c3 w hm ha
      · have hna := ha
        have ha : (p.tmod 2 != 0) = false := by simpa using ha
        by_cases hp : p = 131072
        · subst hp
          rw [rd_pair (x := 0) (y := 4) (by rw [rd, if_pos ⟨hm, hs⟩, if_neg hna, if_pos rfl])]
          exact iRead_port2 a1 a2 a3 n1 c1 n2 c2 n3 c3 w hm
        · by_cases hi : ins p 2 0 n1 = true
          · rw [rd_pair (by rw [rd, if_pos ⟨hm, hs⟩, if_neg hna, if_neg hp, if_pos hi])]
            have hi' := hi
            simp [ins] at hi'
            obtain ⟨k, rfl⟩ := Int.eq_ofNat_of_zero_le hi'.1
            obtain ⟨b, off, rfl⟩ := h1.some (by omega)
            exact iRead_flash2 b off a2 a3 x1 k n1 c1 n2 c2 n3 c3 w hm h1 (by rw [Int.tmod_eq_emod_of_nonneg (by omega)] at ha; exact ha) (by omega)
          · have hi : ins p 2 0 n1 = false := by simpa using hi
            by_cases hj : ins p 2 65536 n2 = true
            · rw [rd_pair (by rw [rd, if_pos ⟨hm, hs⟩, if_neg hna, if_neg hp, if_neg (by rw [hi]; simp), if_pos hj])]
              have hj' := hj
              simp [ins] at hj'
              obtain ⟨k, hk⟩ := Int.eq_ofNat_of_zero_le (show 0 ≤ p - 65536 by omega)
              obtain ⟨b, off, rfl⟩ := h2.some (by omega)
              rw [hk]
              exact iRead_ram2 b off a1 a3 x2 k p n1 c1 n2 c2 n3 c3 w hm h2 hk (by rw [Int.tmod_eq_emod_of_nonneg (by omega)] at ha; exact ha) (by omega)
            · have hj : ins p 2 65536 n2 = false := by simpa using hj
              rw [rd_pair (x := 0) (y := 2) (by rw [rd, if_pos ⟨hm, hs⟩, if_neg hna, if_neg hp, if_neg (by rw [hi]; simp), if_neg (by rw [hj]; simp)])]
              exact iRead_none2 a1 a2 a3 p n1 c1 n2 c2 n3 c3 w hm hmax ha (by simpa using hp) hi hj
    · by_cases ha : (p.tmod 1 != 0) = true
      · rw [tmod1] at ha
        exact absurd ha (by simp)
      · have hna := ha
        have ha : (p.tmod 1 != 0) = false := by simp
        by_cases hp : p = 131072
        · subst hp
          rw [rd_pair (x := 0) (y := 4) (by rw [rd, if_pos ⟨hm, hs⟩, if_neg hna, if_pos rfl])]
          exact iRead_port1 a1 a2 a3 n1 c1 n2 c2 n3 c3 w hm
        · by_cases hi : ins p 1 0 n1 = true
          · rw [rd_pair (by rw [rd, if_pos ⟨hm, hs⟩, if_neg hna, if_neg hp, if_pos hi])]
            have hi' := hi
            simp [ins] at hi'
            obtain ⟨k, rfl⟩ := Int.eq_ofNat_of_zero_le hi'.1
            obtain ⟨b, off, rfl⟩ := h1.some (by omega)
            exact iRead_flash1 b off a2 a3 x1 k n1 c1 n2 c2 n3 c3 w hm h1 (by rw [Int.tmod_eq_emod_of_nonneg (by omega)] at ha; exact ha) (by omega)
          · have hi : ins p 1 0 n1 = false := by simpa using hi
            by_cases hj : ins p 1 65536 n2 = true
            · rw [rd_pair (by rw [rd, if_pos ⟨hm, hs⟩, if_neg hna, if_neg hp, if_neg (by rw [hi]; simp), if_pos hj])]
              have hj' := hj
              simp [ins] at hj'
              obtain ⟨k, hk⟩ := Int.eq_ofNat_of_zero_le (show 0 ≤ p - 65536 by omega)
              obtain ⟨b, off, rfl⟩ := h2.some (by omega)
              rw [hk]
              exact iRead_ram1 b off a1 a3 x2 k p n1 c1 n2 c2 n3 c3 w hm h2 hk (by rw [Int.tmod_eq_emod_of_nonneg (by omega)] at ha; exact ha) (by omega)
            · have hj : ins p 1 65536 n2 = false := by simpa using hj
              rw [rd_pair (x := 0) (y := 2) (by rw [rd, if_pos ⟨hm, hs⟩, if_neg hna, if_neg hp, if_neg (by rw [hi]; simp), if_neg (by rw [hj]; simp)])]
              exact iRead_none1 a1 a2 a3 p n1 c1 n2 c2 n3 c3 w hm hmax ha (by simpa using hp) hi hj
  · rw [rd_pair (x := 0) (y := 2) (by rw [rd, if_neg hb])]
    refine iRead_bad a1 a2 a3 n1 c1 n2 c2 n3 c3 p s w ?_
    by_cases hm : mok n1 n2 n3 = true
    · right; by_cases hs : wd s = true
      · exact absurd ⟨hm, hs⟩ hb
      · simpa using hs
    · left; simpa using hm

end Go.Proofs.Ytngdgogjlpjjpac
