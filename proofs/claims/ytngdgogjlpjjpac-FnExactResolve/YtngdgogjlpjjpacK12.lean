import Derived.Test.YtngdgogjlpjjpacK11
import Derived.Test.YtngdgogjlpjjpacK07
import Derived.Deep.RegionHeld3
namespace Go.Proofs.Ytngdgogjlpjjpac
open Go.RowKit
set_option linter.unusedVariables false

/-- WHAT Read ANSWERS. -/
def rd (n1 n2 n3 : Nat) (x1 x2 : List Int) (p s : Int) : Int × Int :=
  if mok n1 n2 n3 = true ∧ wd s = true then
    if (p.tmod s != 0) = true then (0, 1)
    else if p = 131072 then (0, 4)
      else if ins p s 0 n1 = true then (low ((x1.drop p.toNat).take s.toNat), 0)
      else if ins p s 65536 n2 = true then (low ((x2.drop (p - 65536).toNat).take s.toNat), 0) else (0, 2)
  else (0, 2)
theorem rd_pair {x y : Int} {r : Int × Int} (h : r = (x, y)) : Value.tuple #[.int .i64 r.1, .int .i64 r.2] = .tuple #[.int .i64 x, .int .i64 y] := by rw [h]
theorem wd_cases {s : Int} (h : wd s = true) : s = 4 ∨ s = 2 ∨ s = 1 := by simp [wd] at h; omega
theorem tmod1 (p : Int) : (p.tmod 1 != 0) = false := by simp
theorem BS.some {w : World} {a : Option Addr} {n cap : Nat} {zs : List Int} (h : BS w a n cap zs) (hn : n ≠ 0) : ∃ b off, a = Option.some ⟨b, off, none⟩ := by
  obtain ⟨b, off, e, _⟩ := h.2.2.2.1 hn
  exact ⟨b, off, e⟩

theorem sRead_any (a1 a2 a3 : Option Addr) (n1 c1 n2 c2 n3 c3 : Nat) (x1 x2 x3 : List Int) (p s : Int) (w : World) (h1 : BS w a1 n1 c1 x1) (h2 : BS w a2 n2 c2 x2) (hmax : p ≤ 9223372036854775807) :
    Calls Try.prog 14 #[.agg #[.slice a1 n1 c1, .slice a2 n2 c2, .slice a3 n3 c3], .int .i64 p, .int .i64 s] w fun e w' => e = .returned (.tuple #[.int .i64 (rd n1 n2 n3 x1 x2 p s).1, .int .i64 (rd n1 n2 n3 x1 x2 p s).2]) ∧ Below w.heap.size w w' := by
  by_cases hb : mok n1 n2 n3 = true ∧ wd s = true
  · obtain ⟨hm, hs⟩ := hb
    obtain ⟨l1, l2, l3⟩ := mok1 hm
    rcases wd_cases hs with rfl | rfl | rfl
    · by_cases ha : (p.tmod 4 != 0) = true
      · rw [rd_pair (x := 0) (y := 1) (by rw [rd, if_pos ⟨hm, hs⟩, if_pos ha])]
        exact sRead_mis4 a1 a2 a3 p n1 c1 n2 c2 n3 c3 w hm ha
      · have hna := ha
        have ha : (p.tmod 4 != 0) = false := by simpa using ha
        by_cases hp : p = 131072
        · subst hp
          rw [rd_pair (x := 0) (y := 4) (by rw [rd, if_pos ⟨hm, hs⟩, if_neg hna, if_pos rfl])]
          exact sRead_port4 a1 a2 a3 n1 c1 n2 c2 n3 c3 w hm
        · by_cases hi : ins p 4 0 n1 = true
          · rw [rd_pair (by rw [rd, if_pos ⟨hm, hs⟩, if_neg hna, if_neg hp, if_pos hi])]
            have hi' := hi
            simp [ins] at hi'
            obtain ⟨k, rfl⟩ := Int.eq_ofNat_of_zero_le hi'.1
            obtain ⟨b, off, rfl⟩ := h1.some (by omega)
            exact sRead_flash4 b off a2 a3 x1 k n1 c1 n2 c2 n3 c3 w hm h1 (by rw [Int.tmod_eq_emod_of_nonneg (by omega)] at ha; exact ha) (by omega)
          · have hi : ins p 4 0 n1 = false := by simpa using hi
            by_cases hj : ins p 4 65536 n2 = true
            · rw [rd_pair (by rw [rd, if_pos ⟨hm, hs⟩, if_neg hna, if_neg hp, if_neg (by rw [hi]; simp), if_pos hj])]
              have hj' := hj
              simp [ins] at hj'
              obtain ⟨k, hk⟩ := Int.eq_ofNat_of_zero_le (show 0 ≤ p - 65536 by omega)
              obtain ⟨b, off, rfl⟩ := h2.some (by omega)
              rw [hk]
              exact sRead_ram4 b off a1 a3 x2 k p n1 c1 n2 c2 n3 c3 w hm h2 hk (by rw [Int.tmod_eq_emod_of_nonneg (by omega)] at ha; exact ha) (by omega)
            · have hj : ins p 4 65536 n2 = false := by simpa using hj
              rw [rd_pair (x := 0) (y := 2) (by rw [rd, if_pos ⟨hm, hs⟩, if_neg hna, if_neg hp, if_neg (by rw [hi]; simp), if_neg (by rw [hj]; simp)])]
              exact sRead_none4 a1 a2 a3 p n1 c1 n2 c2 n3 c3 w hm ha (by simpa using hp) hi hj
    · by_cases ha : (p.tmod 2 != 0) = true
      · rw [rd_pair (x := 0) (y := 1) (by rw [rd, if_pos ⟨hm, hs⟩, if_pos ha])]
        exact sRead_mis2 a1 a2 a3 p n1 c1 n2 c2 n3 c3 w hm ha
      · have hna := ha
        have ha : (p.tmod 2 != 0) = false := by simpa using ha
        by_cases hp : p = 131072
        · subst hp
          rw [rd_pair (x := 0) (y := 4) (by rw [rd, if_pos ⟨hm, hs⟩, if_neg hna, if_pos rfl])]
          exact sRead_port2 a1 a2 a3 n1 c1 n2 c2 n3 c3 w hm
        · by_cases hi : ins p 2 0 n1 = true
          · rw [rd_pair (by rw [rd, if_pos ⟨hm, hs⟩, if_neg hna, if_neg hp, if_pos hi])]
            have hi' := hi
            simp [ins] at hi'
            obtain ⟨k, rfl⟩ := Int.eq_ofNat_of_zero_le hi'.1
            obtain ⟨b, off, rfl⟩ := h1.some (by omega)
            exact sRead_flash2 b off a2 a3 x1 k n1 c1 n2 c2 n3 c3 w hm h1 (by rw [Int.tmod_eq_emod_of_nonneg (by omega)] at ha; exact ha) (by omega)
          · have hi : ins p 2 0 n1 = false := by simpa using hi
            by_cases hj : ins p 2 65536 n2 = true
            · rw [rd_pair (by rw [rd, if_pos ⟨hm, hs⟩, if_neg hna, if_neg hp, if_neg (by rw [hi]; simp), if_pos hj])]
              have hj' := hj
              simp [ins] at hj'
              obtain ⟨k, hk⟩ := Int.eq_ofNat_of_zero_le (show 0 ≤ p - 65536 by omega)
              obtain ⟨b, off, rfl⟩ := h2.some (by omega)
              rw [hk]
              exact sRead_ram2 b off a1 a3 x2 k p n1 c1 n2 c2 n3 c3 w hm h2 hk (by rw [Int.tmod_eq_emod_of_nonneg (by omega)] at ha; exact ha) (by omega)
            · have hj : ins p 2 65536 n2 = false := by simpa using hj
              rw [rd_pair (x := 0) (y := 2) (by rw [rd, if_pos ⟨hm, hs⟩, if_neg hna, if_neg hp, if_neg (by rw [hi]; simp), if_neg (by rw [hj]; simp)])]
              exact sRead_none2 a1 a2 a3 p n1 c1 n2 c2 n3 c3 w hm ha (by simpa using hp) hi hj
    · by_cases ha : (p.tmod 1 != 0) = true
      · rw [tmod1] at ha
        exact absurd ha (by simp)
      · have hna := ha
        have ha : (p.tmod 1 != 0) = false := by simp
        by_cases hp : p = 131072
        · subst hp
          rw [rd_pair (x := 0) (y := 4) (by rw [rd, if_pos ⟨hm, hs⟩, if_neg hna, if_pos rfl])]
          exact sRead_port1 a1 a2 a3 n1 c1 n2 c2 n3 c3 w hm
        · by_cases hi : ins p 1 0 n1 = true
          · rw [rd_pair (by rw [rd, if_pos ⟨hm, hs⟩, if_neg hna, if_neg hp, if_pos hi])]
            have hi' := hi
            simp [ins] at hi'
            obtain ⟨k, rfl⟩ := Int.eq_ofNat_of_zero_le hi'.1
            obtain ⟨b, off, rfl⟩ := h1.some (by omega)
            exact sRead_flash1 b off a2 a3 x1 k n1 c1 n2 c2 n3 c3 w hm h1 (by rw [Int.tmod_eq_emod_of_nonneg (by omega)] at ha; exact ha) (by omega)
          · have hi : ins p 1 0 n1 = false := by simpa using hi
            by_cases hj : ins p 1 65536 n2 = true
            · rw [rd_pair (by rw [rd, if_pos ⟨hm, hs⟩, if_neg hna, if_neg hp, if_neg (by rw [hi]; simp), if_pos hj])]
              have hj' := hj
              simp [ins] at hj'
              obtain ⟨k, hk⟩ := Int.eq_ofNat_of_zero_le (show 0 ≤ p - 65536 by omega)
              obtain ⟨b, off, rfl⟩ := h2.some (by omega)
              rw [hk]
              exact sRead_ram1 b off a1 a3 x2 k p n1 c1 n2 c2 n3 c3 w hm h2 hk (by rw [Int.tmod_eq_emod_of_nonneg (by omega)] at ha; exact ha) (by omega)
            · have hj : ins p 1 65536 n2 = false := by simpa using hj
              rw [rd_pair (x := 0) (y := 2) (by rw [rd, if_pos ⟨hm, hs⟩, if_neg hna, if_neg hp, if_neg (by rw [hi]; simp), if_neg (by rw [hj]; simp)])]
              exact sRead_none1 a1 a2 a3 p n1 c1 n2 c2 n3 c3 w hm ha (by simpa using hp) hi hj
  · rw [rd_pair (x := 0) (y := 2) (by rw [rd, if_neg hb])]
    refine sRead_bad a1 a2 a3 n1 c1 n2 c2 n3 c3 p s w ?_
    by_cases hm : mok n1 n2 n3 = true
    · right; by_cases hs : wd s = true
      · exact absurd ⟨hm, hs⟩ hb
      · simpa using hs
    · left; simpa using hm

theorem iRead_any (a1 a2 a3 : Option Addr) (n1 c1 n2 c2 n3 c3 : Nat) (x1 x2 x3 : List Int) (p s : Int) (w : World) (h1 : BS w a1 n1 c1 x1) (h2 : BS w a2 n2 c2 x2) (hmax : p ≤ 9223372036854775807) :
    Calls Try.prog 15 #[.agg #[.slice a1 n1 c1, .slice a2 n2 c2, .slice a3 n3 c3], .int .i64 p, .int .i64 s] w fun e w' => e = .returned (.tuple #[.int .i64 (rd n1 n2 n3 x1 x2 p s).1, .int .i64 (rd n1 n2 n3 x1 x2 p s).2]) ∧ Below w.heap.size w w' := by
  by_cases hb : mok n1 n2 n3 = true ∧ wd s = true
  · obtain ⟨hm, hs⟩ := hb
    obtain ⟨l1, l2, l3⟩ := mok1 hm
    rcases wd_cases hs with rfl | rfl | rfl
    · by_cases ha : (p.tmod 4 != 0) = true
      · rw [rd_pair (x := 0) (y := 1) (by rw [rd, if_pos ⟨hm, hs⟩, if_pos ha])]
        exact iRead_mis4 a1 a2 a3 p n1 c1 n2 c2 n3 c3 w hm ha
      · have hna := ha
        have ha : (p.tmod 4 != 0) = false := by simpa using ha
        by_cases hp : p = 131072
        · subst hp
          rw [rd_pair (x := 0) (y := 4) (by rw [rd, if_pos ⟨hm, hs⟩, if_neg hna, if_pos rfl])]
          exact iRead_port4 a1 a2 a3 n1 c1 n2 c2 n3 c3 w hm
        · by_cases hi : ins p 4 0 n1 = true
          · rw [rd_pair (by rw [rd, if_pos ⟨hm, hs⟩, if_neg hna, if_neg hp, if_pos hi])]
            have hi' := hi
            simp [ins] at hi'
            obtain ⟨k, rfl⟩ := Int.eq_ofNat_of_zero_le hi'.1
            obtain ⟨b, off, rfl⟩ := h1.some (by omega)
            exact iRead_flash4 b off a2 a3 x1 k n1 c1 n2 c2 n3 c3 w hm h1 (by rw [Int.tmod_eq_emod_of_nonneg (by omega)] at ha; exact ha) (by omega)
          · have hi : ins p 4 0 n1 = false := by simpa using hi
            by_cases hj : ins p 4 65536 n2 = true
            · rw [rd_pair (by rw [rd, if_pos ⟨hm, hs⟩, if_neg hna, if_neg hp, if_neg (by rw [hi]; simp), if_pos hj])]
              have hj' := hj
              simp [ins] at hj'
              obtain ⟨k, hk⟩ := Int.eq_ofNat_of_zero_le (show 0 ≤ p - 65536 by omega)
              obtain ⟨b, off, rfl⟩ := h2.some (by omega)
              rw [hk]
              exact iRead_ram4 b off a1 a3 x2 k p n1 c1 n2 c2 n3 c3 w hm h2 hk (by rw [Int.tmod_eq_emod_of_nonneg (by omega)] at ha; exact ha) (by omega)
            · have hj : ins p 4 65536 n2 = false := by simpa using hj
              rw [rd_pair (x := 0) (y := 2) (by rw [rd, if_pos ⟨hm, hs⟩, if_neg hna, if_neg hp, if_neg (by rw [hi]; simp), if_neg (by rw [hj]; simp)])]
              exact iRead_none4 a1 a2 a3 p n1 c1 n2 c2 n3 c3 w hm hmax ha (by simpa using hp) hi hj
    · by_cases ha : (p.tmod 2 != 0) = true
      · rw [rd_pair (x := 0) (y := 1) (by rw [rd, if_pos ⟨hm, hs⟩, if_pos ha])]
        exact iRead_mis2 a1 a2 a3 p n1 c1 n2 c2 n3 c3 w hm ha
      · have hna := ha
        have ha : (p.tmod 2 != 0) = false := by simpa using ha
        by_cases hp : p = 131072
        · subst hp
          rw [rd_pair (x := 0) (y := 4) (by rw [rd, if_pos ⟨hm, hs⟩, if_neg hna, if_pos rfl])]
          exact iRead_port2 a1 a2 a3 n1 c1 n2 c2 n3 c3 w hm
        · by_cases hi : ins p 2 0 n1 = true
          · rw [rd_pair (by rw [rd, if_pos ⟨hm, hs⟩, if_neg hna, if_neg hp, if_pos hi])]
            have hi' := hi
            simp [ins] at hi'
            obtain ⟨k, rfl⟩ := Int.eq_ofNat_of_zero_le hi'.1
            obtain ⟨b, off, rfl⟩ := h1.some (by omega)
            exact iRead_flash2 b off a2 a3 x1 k n1 c1 n2 c2 n3 c3 w hm h1 (by rw [Int.tmod_eq_emod_of_nonneg (by omega)] at ha; exact ha) (by omega)
          · have hi : ins p 2 0 n1 = false := by simpa using hi
            by_cases hj : ins p 2 65536 n2 = true
            · rw [rd_pair (by rw [rd, if_pos ⟨hm, hs⟩, if_neg hna, if_neg hp, if_neg (by rw [hi]; simp), if_pos hj])]
              have hj' := hj
              simp [ins] at hj'
              obtain ⟨k, hk⟩ := Int.eq_ofNat_of_zero_le (show 0 ≤ p - 65536 by omega)
              obtain ⟨b, off, rfl⟩ := h2.some (by omega)
              rw [hk]
              exact iRead_ram2 b off a1 a3 x2 k p n1 c1 n2 c2 n3 c3 w hm h2 hk (by rw [Int.tmod_eq_emod_of_nonneg (by omega)] at ha; exact ha) (by omega)
            · have hj : ins p 2 65536 n2 = false := by simpa using hj
              rw [rd_pair (x := 0) (y := 2) (by rw [rd, if_pos ⟨hm, hs⟩, if_neg hna, if_neg hp, if_neg (by rw [hi]; simp), if_neg (by rw [hj]; simp)])]
              exact iRead_none2 a1 a2 a3 p n1 c1 n2 c2 n3 c3 w hm hmax ha (by simpa using hp) hi hj
    · by_cases ha : (p.tmod 1 != 0) = true
      · rw [tmod1] at ha
        exact absurd ha (by simp)
      · have hna := ha
        have ha : (p.tmod 1 != 0) = false := by simp
        by_cases hp : p = 131072
        · subst hp
          rw [rd_pair (x := 0) (y := 4) (by rw [rd, if_pos ⟨hm, hs⟩, if_neg hna, if_pos rfl])]
          exact iRead_port1 a1 a2 a3 n1 c1 n2 c2 n3 c3 w hm
        · by_cases hi : ins p 1 0 n1 = true
          · rw [rd_pair (by rw [rd, if_pos ⟨hm, hs⟩, if_neg hna, if_neg hp, if_pos hi])]
            have hi' := hi
            simp [ins] at hi'
            obtain ⟨k, rfl⟩ := Int.eq_ofNat_of_zero_le hi'.1
            obtain ⟨b, off, rfl⟩ := h1.some (by omega)
            exact iRead_flash1 b off a2 a3 x1 k n1 c1 n2 c2 n3 c3 w hm h1 (by rw [Int.tmod_eq_emod_of_nonneg (by omega)] at ha; exact ha) (by omega)
          · have hi : ins p 1 0 n1 = false := by simpa using hi
            by_cases hj : ins p 1 65536 n2 = true
            · rw [rd_pair (by rw [rd, if_pos ⟨hm, hs⟩, if_neg hna, if_neg hp, if_neg (by rw [hi]; simp), if_pos hj])]
              have hj' := hj
              simp [ins] at hj'
              obtain ⟨k, hk⟩ := Int.eq_ofNat_of_zero_le (show 0 ≤ p - 65536 by omega)
              obtain ⟨b, off, rfl⟩ := h2.some (by omega)
              rw [hk]
              exact iRead_ram1 b off a1 a3 x2 k p n1 c1 n2 c2 n3 c3 w hm h2 hk (by rw [Int.tmod_eq_emod_of_nonneg (by omega)] at ha; exact ha) (by omega)
            · have hj : ins p 1 65536 n2 = false := by simpa using hj
              rw [rd_pair (x := 0) (y := 2) (by rw [rd, if_pos ⟨hm, hs⟩, if_neg hna, if_neg hp, if_neg (by rw [hi]; simp), if_neg (by rw [hj]; simp)])]
              exact iRead_none1 a1 a2 a3 p n1 c1 n2 c2 n3 c3 w hm hmax ha (by simpa using hp) hi hj
  · rw [rd_pair (x := 0) (y := 2) (by rw [rd, if_neg hb])]
    refine iRead_bad a1 a2 a3 n1 c1 n2 c2 n3 c3 p s w ?_
    by_cases hm : mok n1 n2 n3 = true
    · right; by_cases hs : wd s = true
      · exact absurd ⟨hm, hs⟩ hb
      · simpa using hs
    · left; simpa using hm

end Go.Proofs.Ytngdgogjlpjjpac

namespace Go.Proofs.Ytngdgogjlpjjpac
open Go.RowKit
set_option linter.unusedVariables false

/-- A SLICE OF BYTES OF THE CALL's OWN, from block 'base' on. -/
def OB (w : World) (base : Nat) (v : Value) (zs : List Int) : Prop := w.ownsRow base 5 1 v zs.length (zs.map (Value.int .u8)) ∧ ∀ z ∈ zs, 0 ≤ z ∧ z ≤ 255

theorem bs_news {w : World} {b off n cap : Nat} {zs : List Int} (h : BS w (some ⟨b, off, none⟩) n cap zs) : ∀ j u, (zs.map (Value.int .u8))[j]? = some u → w.cell? ((⟨b, off, none⟩ : Addr).add j) = some u := by
  intro j u hj
  have hl := h.1
  have hjl : j < n := by
    by_cases e : j < n
    · exact e
    · rw [List.getElem?_eq_none (by simp; omega)] at hj; simp at hj
  rw [addr_add, h.at j hjl]
  rw [← hj]
  simp [List.getD_eq_getElem?_getD, show j < zs.length by omega]
theorem own_empty (w : World) : (w.alloc (.cells #[] 5)).ownsRow w.heap.size 5 1 (.slice (some ⟨w.heap.size, 0, none⟩) 0 0) 0 [] :=
  ⟨rfl, .inr ⟨w.heap.size, 0, #[], rfl, Nat.le_refl _, heap_alloc_new w _, Nat.le_refl _, Nat.zero_le _, rfl, rfl⟩⟩
theorem own_shape {w : World} {base n : Nat} {t : TypeId} {v : Value} {xs : List Value} (h : w.ownsRow base t 1 v n xs) : ∃ a cap, v = .slice a n cap := by
  obtain ⟨_, ⟨rfl, rfl⟩ | ⟨g, cap, cur, rfl, _⟩⟩ := h
  · exact ⟨_, _, rfl⟩
  · exact ⟨_, _, rfl⟩
theorem below_grown' {B : Nat} {a w w' : World} {k : Nat} (h : Below B a w) (hg : w.grownBy w' (some k)) (hB : B ≤ w.heap.size) (hk : B ≤ k) : Below B a w' := h.grown hg hB (fun j hj => by cases hj; exact hk)

set_option maxHeartbeats 1000000 in
theorem l1Bytes_any (b off n cap : Nat) (zs : List Int) (w : World) (h : BS w (some ⟨b, off, none⟩) n cap zs) (hn : n ≤ 1048576) :
    Calls Try.prog 108 #[.slice (some ⟨b, off, none⟩) n cap] w fun e w' => ∃ a cap', e = .returned (.slice a n cap') ∧ OB w' w.heap.size (.slice a n cap') zs ∧ Below w.heap.size w w' := by
  obtain ⟨i0, hi, hz0, hz1, hz2⟩ := info_parts info8
  have hl := h.1
  have h' := h.below ((Below.refl w.heap.size w).alloc (Nat.le_refl _) (.cells #[] 5))
  have hnews := hide (bs_news h')
  have hone := hide (ints_oneCell .u8 zs)
  have hown := hide (own_empty w)
  have hlen := hide (show (zs.map (Value.int .u8)).length = n * 1 by simp; omega)
  go_enter Try.func108, Try.ntmps108
  go_wp2_with (at_builtin; refine wpList_append_own _ rfl _ _ 22 rfl w.heap.size 5 i0 (.int .u8 0) 1 1 Try.underlying22 hi hz0 hz1 hz2 rfl (by decide) _ 0 [] rfl hown.out ⟨b, off, none⟩ n cap (zs.map (Value.int .u8)) rfl hlen.out hnews.out hone.out (by unfold maxLen; omega) (by omega) (by simp) ?_; intro v' w1 hown1 hgr1 _)
  simp only [Nat.zero_add, List.nil_append] at hown1
  have hex := own_shape hown1
  go_ret
  obtain ⟨a', cap', he⟩ := hex
  refine ⟨a', cap', by rw [← he]; rfl, ⟨?_, h.2.2.1⟩, ?_⟩
  · rw [hl, ← he]
    exact hown1
  · exact below_grown' ((Below.refl w.heap.size w).alloc (Nat.le_refl _) _) hgr1 (by simp) (Nat.le_refl _)

set_option maxHeartbeats 1000000 in
theorem clone_any (b off n cap : Nat) (zs : List Int) (w : World) (h : BS w (some ⟨b, off, none⟩) n cap zs) (hn : n ≤ 1048576) :
    Calls Try.prog 109 #[.slice (some ⟨b, off, none⟩) n cap] w fun e w' => ∃ a cap', e = .returned (.slice a n cap') ∧ OB w' w.heap.size (.slice a n cap') zs ∧ Below w.heap.size w w' := by
  obtain ⟨i0, hi, hz0, hz1, hz2⟩ := info_parts info8
  have hl := h.1
  have h' := h.below ((Below.refl w.heap.size w).alloc (Nat.le_refl _) (.cells #[] 5))
  have hnews := hide (bs_news h')
  have hone := hide (ints_oneCell .u8 zs)
  have hown := hide (own_empty w)
  have hlen := hide (show (zs.map (Value.int .u8)).length = n * 1 by simp; omega)
  have hnil := fun (w : World) => Lib.run_eql_slice_nil (P := Try.prog) w 22 5 (some ⟨b, off, none⟩) n cap 0 0 Try.underlying22
  go_enter Try.func109, Try.ntmps109
  go_wp2_with (at_builtin; refine wpList_append_own _ rfl _ _ 22 rfl w.heap.size 5 i0 (.int .u8 0) 1 1 Try.underlying22 hi hz0 hz1 hz2 rfl (by decide) _ 0 [] rfl hown.out ⟨b, off, none⟩ n cap (zs.map (Value.int .u8)) rfl hlen.out hnews.out hone.out (by unfold maxLen; omega) (by omega) (by simp) ?_; intro v' w1 hown1 hgr1 _)
  simp only [Nat.zero_add, List.nil_append] at hown1
  have hex := own_shape hown1
  go_ret
  obtain ⟨a', cap', he⟩ := hex
  refine ⟨a', cap', by rw [← he]; rfl, ⟨?_, h.2.2.1⟩, ?_⟩
  · rw [hl, ← he]
    exact hown1
  · exact below_grown' ((Below.refl w.heap.size w).alloc (Nat.le_refl _) _) hgr1 (by simp) (Nat.le_refl _)
end Go.Proofs.Ytngdgogjlpjjpac
