import Derived.Test.YtngdgogjlpjjpaeGreatJ45
import Derived.Deep.RegionHeld3
import Derived.Test.YtngdgogjlpjjpaeGreatJ09
import Derived.Test.YtngdgogjlpjjpaeGreatJ01
namespace Go.Proofs.YtngdgogjlpjjpaeGreat
open Go.RowKit
set_option linter.unusedVariables false
set_option linter.unusedSimpArgs false
set_option maxRecDepth 100000

set_option maxHeartbeats 1000000 in
theorem stackEnd_any (L : Lay) (a0 : Option Addr) (c0 : Nat) (xs : List PB) (a2 : Option Addr) (c2 : Nat) (a5 : Option Addr) (c5 : Nat) (ts : List TB) (w : World) (h : LyT w L a0 c0 xs a2 c2 a5 c5 ts) :
    Calls Tryz.prog 185 #[.agg #[.slice a0 xs.length c0, .int .i64 L.stack, .slice a2 L.slots.length c2, .int .i64 L.flash, .int .i64 L.ram, .slice a5 ts.length c5]] w fun e w' => e = .returned (.int .i64 (endOf L)) ∧ Below w.heap.size w w' := by
  have HB := hide (show Below w.heap.size w (w.alloc (.cells #[.slice a0 xs.length c0, .int .i64 L.stack, .slice a2 L.slots.length c2, .int .i64 L.flash, .int .i64 L.ram, .slice a5 ts.length c5] 36)) from (Below.refl _ _).alloc (Nat.le_refl _) _)
  have hs := h.s.below HB.out
  have hmx := h.s.2.1
  unfold maxLen at hmx
  unfold endOf
  by_cases c : L.slots = []
  · rw [if_pos c]
    have hl : L.slots.length = 0 := by rw [c]; rfl
    rw [hl]
    rw [hl] at HB
    go_enter Tryz.func185, Tryz.ntmps185
    go_wp2
    go_ret
    exact ⟨rfl, HB.out⟩
  · rw [if_neg c]
    have hl : 0 < L.slots.length := List.length_pos_iff.2 c
    have hl' : (0 : Int) < (L.slots.length : Int) := by omega
    obtain ⟨b, off, rfl, hc⟩ := hs.2.2.2.1 (by omega)
    have q := hc 0 hl
    rw [Nat.add_zero] at q
    generalize L.slots.length = n at *
    generalize L.slots.getD 0 0 = z at *
    clear hs hc c
    go_enter Tryz.func185, Tryz.ntmps185
    go_wp2
    go_ret
    exact ⟨rfl, HB.out⟩

/-- the number of words of a piece of modules; -1 where there is none -/
def pcm (ms : List Md) (m b : Int) : Int := if 0 ≤ m ∧ m < (ms.length : Int) then pcn (ms.getD m.toNat zMd).tn (ms.getD m.toNat zMd).bn (ms.getD m.toNat zMd).bl b else -1
set_option maxHeartbeats 1000000 in
theorem l6There_any (a : Option Addr) (n cap : Nat) (ms : List Md) (m b : Int) (w : World) (h : MS w a n cap ms) :
    Calls Tryz.prog 98 #[.slice a n cap, .int .i64 m, .int .i64 b] w fun e w' => e = .returned (.bool (decide (0 ≤ pcm ms m b))) ∧ Below w.heap.size w w' := by
  have hn := h.1
  have hm := h.2.1
  unfold maxLen at hm
  have HB := hide (Below.refl w.heap.size w)
  by_cases c1 : m < 0
  · have HP := hide (show decide (0 ≤ pcm ms m b) = false by unfold pcm; rw [if_neg (by omega)]; rfl)
    rw [HP.out]
    clear hn
    go_enter Tryz.func98, Tryz.ntmps98
    go_wp2
    go_ret
    exact ⟨rfl, HB.out⟩
  · by_cases c2 : (n : Int) ≤ m
    · have HP := hide (show decide (0 ≤ pcm ms m b) = false by unfold pcm; rw [if_neg (by omega)]; rfl)
      rw [HP.out]
      clear hn
      go_enter Tryz.func98, Tryz.ntmps98
      go_wp2
      go_ret
      exact ⟨rfl, HB.out⟩
    · have HP := hide (show pcm ms m b = pcn (ms.getD m.toNat zMd).tn (ms.getD m.toNat zMd).bn (ms.getD m.toNat zMd).bl b by unfold pcm; rw [if_pos (by omega)])
      rw [HP.out]
      clear HP
      obtain ⟨g, off, rfl, q0, q1, q2, q3, q4, q5, q6, q7⟩ := h.at m.toNat (by omega)
      have hmt := h.2.2.2.1 m.toNat (by omega)
      generalize ms.getD m.toNat zMd = M at *
      have HC := hide (l4Piece_any M.nm M.ta M.tn M.tc M.ba M.bn M.bc M.bl (.slice M.da M.dn M.dc) (.slice M.ra M.rn M.rc) (.slice M.ia M.im M.ic) (.slice M.ea M.en M.ec) M.bss b w hmt.t.2.1 hmt.b)
      have c1' : 0 ≤ m := by omega
      have c2' : m < (n : Int) := by omega
      clear hn hmt h
      go_enter Tryz.func98, Tryz.ntmps98
      go_wp2_with fail
      refine HC.out.mono ?_
      rintro e w' ⟨xa, xn, xc, ok, rfl, ho, _, _, hB⟩
      have HO := hide ho
      clear ho
      go_wp2
      go_ret
      exact ⟨ret_bool HO.out, hB⟩
set_option maxHeartbeats 1000000 in
theorem isPiece_any (a : Option Addr) (n cap : Nat) (ms : List Md) (m b : Int) (w : World) (h : MS w a n cap ms) :
    Calls Tryz.prog 99 #[.slice a n cap, .int .i64 m, .int .i64 b] w fun e w' => e = .returned (.bool (decide (0 ≤ pcm ms m b))) ∧ Below w.heap.size w w' := by
  have hn := h.1
  have hm := h.2.1
  unfold maxLen at hm
  have HB := hide (Below.refl w.heap.size w)
  by_cases c1 : m < 0
  · have HP := hide (show decide (0 ≤ pcm ms m b) = false by unfold pcm; rw [if_neg (by omega)]; rfl)
    rw [HP.out]
    clear hn
    have HU := hide (isUpTo_any m ((n : Int) - 1))
    go_enter Tryz.func99, Tryz.ntmps99
    go_wp2_with (go_at_call 165; refine (HU.out _).mono ?_; rintro e w2 ⟨rfl, rfl⟩; rw [decide_eq_false (by omega)])
    go_ret
    exact ⟨rfl, HB.out⟩
  · by_cases c2 : (n : Int) ≤ m
    · have HP := hide (show decide (0 ≤ pcm ms m b) = false by unfold pcm; rw [if_neg (by omega)]; rfl)
      rw [HP.out]
      clear hn
      have HU := hide (isUpTo_any m ((n : Int) - 1))
      go_enter Tryz.func99, Tryz.ntmps99
      go_wp2_with (go_at_call 165; refine (HU.out _).mono ?_; rintro e w2 ⟨rfl, rfl⟩; rw [decide_eq_false (by omega)])
      go_ret
      exact ⟨rfl, HB.out⟩
    · have HP := hide (show pcm ms m b = pcn (ms.getD m.toNat zMd).tn (ms.getD m.toNat zMd).bn (ms.getD m.toNat zMd).bl b by unfold pcm; rw [if_pos (by omega)])
      rw [HP.out]
      clear HP
      obtain ⟨g, off, rfl, q0, q1, q2, q3, q4, q5, q6, q7⟩ := h.at m.toNat (by omega)
      have hmt := h.2.2.2.1 m.toNat (by omega)
      generalize ms.getD m.toNat zMd = M at *
      have HC := hide (pieceOf_any M.nm M.ta M.tn M.tc M.ba M.bn M.bc M.bl (.slice M.da M.dn M.dc) (.slice M.ra M.rn M.rc) (.slice M.ia M.im M.ic) (.slice M.ea M.en M.ec) M.bss b w hmt.t.2.1 hmt.b)
      have c1' : 0 ≤ m := by omega
      have c2' : m < (n : Int) := by omega
      clear hn hmt h
      have HU := hide (isUpTo_any m ((n : Int) - 1))
      go_enter Tryz.func99, Tryz.ntmps99
      go_wp2_with (go_at_call 165; refine (HU.out _).mono ?_; rintro e w2 ⟨rfl, rfl⟩; rw [decide_eq_true (by omega)])
      refine HC.out.mono ?_
      rintro e w' ⟨xa, xn, xc, ok, rfl, ho, _, _, hB⟩
      have HO := hide ho
      clear ho
      go_wp2
      go_ret
      exact ⟨ret_bool HO.out, hB⟩
end Go.Proofs.YtngdgogjlpjjpaeGreat

namespace Go.Proofs.YtngdgogjlpjjpaeGreat
open Go.RowKit
set_option linter.unusedVariables false
set_option linter.unusedSimpArgs false
set_option maxRecDepth 100000

/-- the address where a piece is executed -/
def orgn (L : Lay) (P : PB) (b s : Int) : Int := if b = -1 then P.1.text else if s = -1 then P.1.banks.getD b.toNat 0 else L.slots.getD s.toNat 0

set_option maxHeartbeats 2000000 in
theorem originOf_any (L : Lay) (a0 : Option Addr) (c0 : Nat) (xs : List PB) (a2 : Option Addr) (c2 : Nat) (a5 : Option Addr) (c5 : Nat) (ts : List TB) (m b at' s : Int) (w : World) (h : LyT w L a0 c0 xs a2 c2 a5 c5 ts)
    (hm0 : 0 ≤ m) (hm1 : m < (xs.length : Int)) (hb : b = -1 ∨ (0 ≤ b ∧ b < ((xs.getD m.toNat zPB).1.banks.length : Int))) (hs : s = -1 ∨ (b ≠ -1 ∧ 0 ≤ s ∧ s < (L.slots.length : Int))) :
    Calls Tryz.prog 186 #[.agg #[.slice a0 xs.length c0, .int .i64 L.stack, .slice a2 L.slots.length c2, .int .i64 L.flash, .int .i64 L.ram, .slice a5 ts.length c5], .agg #[.int .i64 m, .int .i64 b, .int .i64 at'], .int .i64 s] w fun e w' => e = .returned (.int .i64 (orgn L (xs.getD m.toNat zPB) b s)) ∧ Below w.heap.size w w' := by
  obtain ⟨W, hW⟩ : ∃ W, W = (w.alloc (.cells #[.slice a0 xs.length c0, .int .i64 L.stack, .slice a2 L.slots.length c2, .int .i64 L.flash, .int .i64 L.ram, .slice a5 ts.length c5] 36)).alloc (.cells #[.int .i64 m, .int .i64 b, .int .i64 at'] 71) := ⟨_, rfl⟩
  have hB : Below w.heap.size w W := by rw [hW]; exact ((Below.refl _ _).alloc (Nat.le_refl _) _).alloc (by simp) _
  have HB := hide hB
  have h1 := h.below hB
  have k0 : Blk W w.heap.size #[.slice a0 xs.length c0, .int .i64 L.stack, .slice a2 L.slots.length c2, .int .i64 L.flash, .int .i64 L.ram, .slice a5 ts.length c5] 36 := by rw [hW]; exact (Blk.new w _ _).alloc _
  have k1 : Blk W (w.heap.size + 1) #[.int .i64 m, .int .i64 b, .int .i64 at'] 71 := by rw [hW]; have := Blk.new (w.alloc (.cells #[.slice a0 xs.length c0, .int .i64 L.stack, .slice a2 L.slots.length c2, .int .i64 L.flash, .int .i64 L.ram, .slice a5 ts.length c5] 36)) #[.int .i64 m, .int .i64 b, .int .i64 at'] 71; simpa using this
  have hz : W.heap.size = w.heap.size + 1 + 1 := by rw [hW]; simp
  have HZ := hide hz
  clear hz
  have d0 : W.cell? ⟨w.heap.size, 0, none⟩ = some (.slice a0 xs.length c0) := k0.cell 0
  have d2 : W.cell? ⟨w.heap.size, 2, none⟩ = some (.slice a2 L.slots.length c2) := k0.cell 2
  have t0 : W.cell? ⟨w.heap.size + 1, 0, none⟩ = some (.int .i64 m) := k1.cell 0
  have t1 : W.cell? ⟨w.heap.size + 1, 1, none⟩ = some (.int .i64 b) := k1.cell 1
  obtain ⟨g, off, rfl, q0, q1, q2, q3⟩ := h1.p.at m.toNat (by omega)
  have hbk := h1.p.2.2.2.1 m.toNat (by omega)
  have hsl := h1.s
  have hmx := h1.p.2.1
  have hmy := hsl.2.1
  have hmz := hbk.2.1
  unfold maxLen at hmx hmy hmz
  unfold svP at q1
  generalize xs.getD m.toNat zPB = P at *
  have HW := hide hW
  clear hW hB k0 k1 h1 h
  rcases hb with rfl | ⟨hb0, hb1⟩
  · obtain rfl : s = -1 := by rcases hs with h | h; exact h; exact absurd rfl h.1
    have HO := hide (show orgn L P (-1) (-1) = P.1.text from rfl)
    rw [HO.out]
    clear hs hbk hsl
    generalize P.1.text = x at *
    generalize xs.length = n at *
    generalize L.slots.length = l at *
    go_enter Tryz.func186, Tryz.ntmps186
    go_wp2_with (rw [← HW.out])
    go_ret
    exact ⟨rfl, (by first | exact HB.out | exact HB.out.drew)⟩
  · have hb2 : ¬ b = -1 := by omega
    have hb3 : (b == -1) = false := by simpa using hb2
    rcases hs with rfl | ⟨_, hs0, hs1⟩
    · have HO := hide (show orgn L P b (-1) = P.1.banks.getD b.toNat 0 by unfold orgn; rw [if_neg hb2, if_pos rfl])
      rw [HO.out]
      obtain ⟨u, v, e, hc⟩ := hbk.2.2.2.1 (by omega)
      have qq := hc b.toNat (by omega)
      rw [e] at q1
      clear hbk hsl e hc HO
      generalize P.1.banks.getD b.toNat 0 = x at *
      generalize P.1.banks.length = y at *
      generalize xs.length = n at *
      generalize L.slots.length = l at *
      go_enter Tryz.func186, Tryz.ntmps186
      go_wp2_with (rw [← HW.out])
      go_region_held3 (fun w' => w'.cell? ⟨w.heap.size, 0, none⟩ = some (.slice (some ⟨g, off, none⟩) n c0) ∧ w'.cell? ⟨w.heap.size + 1, 0, none⟩ = some (.int .i64 m) ∧ w'.cell? ⟨w.heap.size + 1, 1, none⟩ = some (.int .i64 b) ∧ w'.cell? ⟨g, off + m.toNat * 4 + 1, none⟩ = some (.slice (some ⟨u, v, none⟩) y P.2.2) ∧ w'.cell? ⟨u, v + b.toNat, none⟩ = some (.int .i64 x)) (go_keep) (fail)
      go_wp2
      go_ret
      exact ⟨rfl, (by first | exact HB.out | exact HB.out.drew)⟩
    · have hs2 : ¬ s = -1 := by omega
      have hs3 : (s == -1) = false := by simpa using hs2
      have HO := hide (show orgn L P b s = L.slots.getD s.toNat 0 by unfold orgn; rw [if_neg hb2, if_neg hs2])
      rw [HO.out]
      obtain ⟨u, v, e, hc⟩ := hsl.2.2.2.1 (by omega)
      have qq := hc s.toNat (by omega)
      rw [e] at d2
      clear hbk hsl e hc HO
      generalize L.slots.getD s.toNat 0 = x at *
      generalize P.1.banks.length = y at *
      generalize xs.length = n at *
      generalize L.slots.length = l at *
      go_enter Tryz.func186, Tryz.ntmps186
      go_wp2_with (rw [← HW.out])
      go_ret
      exact ⟨rfl, (by first | exact HB.out | exact HB.out.drew)⟩
end Go.Proofs.YtngdgogjlpjjpaeGreat

namespace Go.Proofs.YtngdgogjlpjjpaeGreat
open Go.RowKit
set_option linter.unusedVariables false
set_option linter.unusedSimpArgs false
set_option maxRecDepth 100000


set_option maxHeartbeats 2000000 in
theorem l6Origin_any (L : Lay) (a0 : Option Addr) (c0 : Nat) (xs : List PB) (a2 : Option Addr) (c2 : Nat) (a5 : Option Addr) (c5 : Nat) (ts : List TB) (m b at' s : Int) (w : World) (h : LyT w L a0 c0 xs a2 c2 a5 c5 ts)
    (hm0 : 0 ≤ m) (hm1 : m < (xs.length : Int)) (hb : b = -1 ∨ (0 ≤ b ∧ b < ((xs.getD m.toNat zPB).1.banks.length : Int))) (hs : s = -1 ∨ (b ≠ -1 ∧ 0 ≤ s ∧ s < (L.slots.length : Int))) :
    Calls Tryz.prog 135 #[.agg #[.slice a0 xs.length c0, .int .i64 L.stack, .slice a2 L.slots.length c2, .int .i64 L.flash, .int .i64 L.ram, .slice a5 ts.length c5], .agg #[.int .i64 m, .int .i64 b, .int .i64 at'], .int .i64 s] w fun e w' => e = .returned (.int .i64 (orgn L (xs.getD m.toNat zPB) b s)) ∧ Below w.heap.size w w' := by
  obtain ⟨W, hW⟩ : ∃ W, W = (w.alloc (.cells #[.slice a0 xs.length c0, .int .i64 L.stack, .slice a2 L.slots.length c2, .int .i64 L.flash, .int .i64 L.ram, .slice a5 ts.length c5] 36)).alloc (.cells #[.int .i64 m, .int .i64 b, .int .i64 at'] 71) := ⟨_, rfl⟩
  have hB : Below w.heap.size w W := by rw [hW]; exact ((Below.refl _ _).alloc (Nat.le_refl _) _).alloc (by simp) _
  have HB := hide hB
  have h1 := h.below hB
  have k0 : Blk W w.heap.size #[.slice a0 xs.length c0, .int .i64 L.stack, .slice a2 L.slots.length c2, .int .i64 L.flash, .int .i64 L.ram, .slice a5 ts.length c5] 36 := by rw [hW]; exact (Blk.new w _ _).alloc _
  have k1 : Blk W (w.heap.size + 1) #[.int .i64 m, .int .i64 b, .int .i64 at'] 71 := by rw [hW]; have := Blk.new (w.alloc (.cells #[.slice a0 xs.length c0, .int .i64 L.stack, .slice a2 L.slots.length c2, .int .i64 L.flash, .int .i64 L.ram, .slice a5 ts.length c5] 36)) #[.int .i64 m, .int .i64 b, .int .i64 at'] 71; simpa using this
  have hz : W.heap.size = w.heap.size + 1 + 1 := by rw [hW]; simp
  have HZ := hide hz
  clear hz
  have d0 : W.cell? ⟨w.heap.size, 0, none⟩ = some (.slice a0 xs.length c0) := k0.cell 0
  have d2 : W.cell? ⟨w.heap.size, 2, none⟩ = some (.slice a2 L.slots.length c2) := k0.cell 2
  have t0 : W.cell? ⟨w.heap.size + 1, 0, none⟩ = some (.int .i64 m) := k1.cell 0
  have t1 : W.cell? ⟨w.heap.size + 1, 1, none⟩ = some (.int .i64 b) := k1.cell 1
  obtain ⟨g, off, rfl, q0, q1, q2, q3⟩ := h1.p.at m.toNat (by omega)
  have hbk := h1.p.2.2.2.1 m.toNat (by omega)
  have hsl := h1.s
  have hmx := h1.p.2.1
  have hmy := hsl.2.1
  have hmz := hbk.2.1
  unfold maxLen at hmx hmy hmz
  unfold svP at q1
  generalize xs.getD m.toNat zPB = P at *
  have kA := k0.alloc (.cells #[.int .i64 P.1.text, .slice P.2.1 P.1.banks.length P.2.2, .int .i64 P.1.data, .int .i64 P.1.size] 138)
  have kB := k1.alloc (.cells #[.int .i64 P.1.text, .slice P.2.1 P.1.banks.length P.2.2, .int .i64 P.1.data, .int .i64 P.1.size] 138)
  have kC := Blk.new W #[.int .i64 P.1.text, .slice P.2.1 P.1.banks.length P.2.2, .int .i64 P.1.data, .int .i64 P.1.size] 138
  have v2 : (W.alloc (.cells #[.int .i64 P.1.text, .slice P.2.1 P.1.banks.length P.2.2, .int .i64 P.1.data, .int .i64 P.1.size] 138)).cell? ⟨w.heap.size, 2, none⟩ = some (.slice a2 L.slots.length c2) := kA.cell 2
  have v1 : (W.alloc (.cells #[.int .i64 P.1.text, .slice P.2.1 P.1.banks.length P.2.2, .int .i64 P.1.data, .int .i64 P.1.size] 138)).cell? ⟨w.heap.size + 1, 1, none⟩ = some (.int .i64 b) := kB.cell 1
  have u0 : (W.alloc (.cells #[.int .i64 P.1.text, .slice P.2.1 P.1.banks.length P.2.2, .int .i64 P.1.data, .int .i64 P.1.size] 138)).cell? ⟨W.heap.size, 0, none⟩ = some (.int .i64 P.1.text) := kC.cell 0
  have u1 : (W.alloc (.cells #[.int .i64 P.1.text, .slice P.2.1 P.1.banks.length P.2.2, .int .i64 P.1.data, .int .i64 P.1.size] 138)).cell? ⟨W.heap.size, 1, none⟩ = some (.slice P.2.1 P.1.banks.length P.2.2) := kC.cell 1
  have HBV := hide (show Below W.heap.size W (W.alloc (.cells #[.int .i64 P.1.text, .slice P.2.1 P.1.banks.length P.2.2, .int .i64 P.1.data, .int .i64 P.1.size] 138)) from (Below.refl _ _).alloc (Nat.le_refl _) _)
  have HBW := hide (show Below w.heap.size w (W.alloc (.cells #[.int .i64 P.1.text, .slice P.2.1 P.1.banks.length P.2.2, .int .i64 P.1.data, .int .i64 P.1.size] 138)) from hB.alloc hB.size _)
  have HW := hide hW
  clear hW hB k0 k1 h1 h kA kB kC
  rcases hb with rfl | ⟨hb0, hb1⟩
  · obtain rfl : s = -1 := by rcases hs with h | h; exact h; exact absurd rfl h.1
    have HO := hide (show orgn L P (-1) (-1) = P.1.text from rfl)
    rw [HO.out]
    clear hs hbk hsl
    generalize P.1.text = x at *
    generalize xs.length = n at *
    generalize L.slots.length = l at *
    go_enter Tryz.func135, Tryz.ntmps135
    go_wp2_with (rw [← HW.out])
    all_goals go_ret
    all_goals exact ⟨rfl, (by first | exact HBW.out | exact HBW.out.drew | exact HB.out | exact (HB.out.alloc HB.out.size _) | exact ((HB.out.alloc HB.out.size _).setCells (by omega) _))⟩
  · have hb2 : ¬ b = -1 := by omega
    have hb3 : (b == -1) = false := by simpa using hb2
    rcases hs with rfl | ⟨_, hs0, hs1⟩
    · have HO := hide (show orgn L P b (-1) = P.1.banks.getD b.toNat 0 by unfold orgn; rw [if_neg hb2, if_pos rfl])
      rw [HO.out]
      obtain ⟨u, v, e, hc⟩ := hbk.2.2.2.1 (by omega)
      have qq := hc b.toNat (by omega)
      have qv := cell_below HBV.out qq
      rw [e] at q1
      rw [e] at u1 u0 v1 v2 qv HBW
      clear HBV
      clear hbk hsl e hc HO
      generalize P.1.banks.getD b.toNat 0 = x at *
      generalize P.1.banks.length = y at *
      generalize xs.length = n at *
      generalize L.slots.length = l at *
      go_enter Tryz.func135, Tryz.ntmps135
      go_wp2_with (rw [← HW.out])
      all_goals go_ret
      all_goals exact ⟨rfl, (by first | exact HBW.out | exact HBW.out.drew | exact HB.out | exact (HB.out.alloc HB.out.size _) | exact ((HB.out.alloc HB.out.size _).setCells (by omega) _))⟩
    · have hs2 : ¬ s = -1 := by omega
      have hs3 : (s == -1) = false := by simpa using hs2
      have HO := hide (show orgn L P b s = L.slots.getD s.toNat 0 by unfold orgn; rw [if_neg hb2, if_neg hs2])
      rw [HO.out]
      obtain ⟨u, v, e, hc⟩ := hsl.2.2.2.1 (by omega)
      have qq := hc s.toNat (by omega)
      have qv := cell_below HBV.out qq
      rw [e] at d2 v2
      clear HBV
      clear hbk hsl e hc HO
      generalize L.slots.getD s.toNat 0 = x at *
      generalize P.1.banks.length = y at *
      generalize xs.length = n at *
      generalize L.slots.length = l at *
      go_enter Tryz.func135, Tryz.ntmps135
      go_wp2_with (rw [← HW.out])
      all_goals go_ret
      all_goals exact ⟨rfl, (by first | exact HBW.out | exact HBW.out.drew | exact HB.out | exact (HB.out.alloc HB.out.size _) | exact ((HB.out.alloc HB.out.size _).setCells (by omega) _))⟩
end Go.Proofs.YtngdgogjlpjjpaeGreat

namespace Go.Proofs.YtngdgogjlpjjpaeGreat
open Go.RowKit
set_option linter.unusedVariables false

/-- WHAT writeFault SAYS. -/
def wff (n1 n2 n3 : Nat) (p s : Int) : Int :=
  if mok n1 n2 n3 = true ∧ wd s = true then
    if (p.tmod s != 0) = true then 1
    else if p = 131072 then (if 5000 ≤ n3 then 4 else 0)
      else if ins p s 0 n1 = true then 3
      else if ins p s 65536 n2 = true then 0 else 2
  else 2
theorem wrm_fault (n1 n2 n3 : Nat) (x1 x2 x3 : List Int) (p s v : Int) (h : wff n1 n2 n3 p s ≠ 0) : wrm n1 n2 n3 x1 x2 x3 p s v = (x1, x2, x3, wff n1 n2 n3 p s) := by
  unfold wff at h ⊢
  unfold wrm
  split
  · next h1 =>
    rw [if_pos h1] at h
    split
    · rfl
    · next h2 =>
      rw [if_neg h2] at h
      split
      · next h3 =>
        rw [if_pos h3] at h
        split
        · rfl
        · next h4 => rw [if_neg h4] at h; exact absurd rfl h
      · next h3 =>
        rw [if_neg h3] at h
        split
        · rfl
        · next h4 =>
          rw [if_neg h4] at h
          split
          · next h5 => rw [if_pos h5] at h; exact absurd rfl h
          · rfl
  · rfl
theorem wff_zero {n1 n2 n3 : Nat} {p s : Int} (h : wff n1 n2 n3 p s = 0) : mok n1 n2 n3 = true ∧ wd s = true ∧ (p.tmod s != 0) = false ∧ ((p = 131072 ∧ n3 < 5000) ∨ (p ≠ 131072 ∧ ins p s 0 n1 = false ∧ ins p s 65536 n2 = true)) := by
  unfold wff at h
  split at h
  · next h1 =>
    split at h
    · omega
    · next h2 =>
      split at h
      · next h3 =>
        split at h
        · omega
        · exact ⟨h1.1, h1.2, by simpa using h2, Or.inl ⟨h3, by omega⟩⟩
      · next h3 =>
        split at h
        · omega
        · next h4 =>
          split at h
          · next h5 => exact ⟨h1.1, h1.2, by simpa using h2, Or.inr ⟨h3, by simpa using h4, h5⟩⟩
          · omega
  · omega

end Go.Proofs.YtngdgogjlpjjpaeGreat

namespace Go.Proofs.YtngdgogjlpjjpaeGreat
open Go.RowKit
set_option linter.unusedVariables false

theorem ob_addr' {w : World} {base n cap : Nat} {a : Option Addr} {zs : List Int} (h : OB w base (.slice a n cap) zs) (hn : n ≠ 0) : ∃ g, a = some ⟨g, 0, none⟩ := by
  obtain ⟨hl, ⟨h0', _⟩ | ⟨g, cap', cur, hv, _⟩⟩ := h.1
  · simp at h0'; exact absurd h0'.2.1 hn
  · simp at hv; exact ⟨g, hv.1⟩
theorem ob_room2 {w : World} {base g n cap m : Nat} {zs : List Int} (h : OB w base (.slice (some ⟨g, 0, none⟩) n cap) zs) (hm : m ≤ n) : Room w g m := by
  obtain ⟨cur, hb, hn⟩ := ob_room h
  exact ⟨cur, hb, by omega⟩

/-- WHAT writeInto LEAVES: the three slices lie at cells o, o + 1, o + 2 of block g. -/
def WiPost (w : World) (g o : Nat) (cs : Array Value) (t : TypeId) (base : Nat) (v1 v2 v3 : Value) (r : List Int × List Int × List Int × Int) (e : Ending) (w' : World) : Prop :=
  ∃ a3 m3 d3, e = .returned (.int .i64 r.2.2.2) ∧ Blk w' g (cs.setIfInBounds (o + 2) (.slice a3 m3 d3)) t ∧ Own3 w' base v1 v2 (.slice a3 m3 d3) r.1 r.2.1 r.2.2.1 ∧ (Value.slice a3 m3 d3).ownBlock ≠ some g ∧ Turn (fun j => j = g ∨ v2.ownBlock = some j ∨ v3.ownBlock = some j) w w'

theorem set_same {cs : Array Value} {i : Nat} {v : Value} (h : cs[i]? = some v) : cs.setIfInBounds i v = cs := by
  apply Array.ext_getElem?
  intro j
  rw [Array.getElem?_setIfInBounds]
  split
  · next e =>
    subst e
    split
    · exact h.symm
    · next hl => rw [Array.getElem?_eq_none (by omega)] at h; cases h
  · rfl

/-- the bytes behind Out, at cell o + 2 of block g -/
theorem own_out {W W' : World} {base g o : Nat} {cs : Array Value} {t : TypeId} {v1 v2 v3 v' : Value} {x1 x2 x3 : List Int} {z : Int} (hk : Blk W g cs t) (ht : t ≠ 5) (h3 : Own3 W base v1 v2 v3 x1 x2 x3)
    (far : ∀ v, v = v1 ∨ v = v2 ∨ v = v3 → v.ownBlock ≠ some g) (hz : 0 ≤ z ∧ z ≤ 255)
    (bs : Nat) (hbs : base ≤ bs) (h1 : ∀ k, v1.ownBlock = some k → k < bs) (h2 : ∀ k, v2.ownBlock = some k → k < bs)
    (ho : W'.ownsRow bs 5 1 v' (x3.length + 1) (x3.map (Value.int .u8) ++ [Value.int .u8 z])) (hg : (W.alloc (.cells #[.int .u8 z] 5)).grownBy W' v3.ownBlock) :
    Blk (W'.setCell ⟨g, o + 2, none⟩ v') g (cs.setIfInBounds (o + 2) v') t ∧ Own3 (W'.setCell ⟨g, o + 2, none⟩ v') base v1 v2 v' x1 x2 (x3 ++ [z]) ∧ v'.ownBlock ≠ some g ∧ Turn (fun j => j = g ∨ v2.ownBlock = some j ∨ v3.ownBlock = some j) W (W'.setCell ⟨g, o + 2, none⟩ v') := by
  have f1 : v1.ownBlock = none ∨ v1.ownBlock ≠ v3.ownBlock := by
    cases e : v1.ownBlock with
    | none => exact Or.inl rfl
    | some k => right; intro e'; exact Nat.lt_irrefl _ (h3.2.2.2.2.1 k k e e'.symm)
  have f2 : v2.ownBlock = none ∨ v2.ownBlock ≠ v3.ownBlock := by
    cases e : v2.ownBlock with
    | none => exact Or.inl rfl
    | some k => right; intro e'; exact Nat.lt_irrefl _ (h3.2.2.2.2.2 k k e e'.symm)
  have ko := grown_blk hg (hk.alloc (.cells #[.int .u8 z] 5)) (fun e => far v3 (Or.inr (Or.inr rfl)) e.symm)
  have hfar : v'.ownBlock ≠ some g := by
    intro e
    obtain ⟨_, ⟨rfl, _⟩ | ⟨g', cap, cur, rfl, hgg, hh, _⟩⟩ := ho
    · simp [Value.ownBlock] at e
    · simp [Value.ownBlock] at e
      subst e
      unfold Blk at ko
      rw [ko] at hh
      simp at hh
      exact ht hh.2
  have o1 := grown_ob hg (own3_alloc h3 (.cells #[.int .u8 z] 5)).1 f1
  have o2 := grown_ob hg (own3_alloc h3 (.cells #[.int .u8 z] 5)).2.1 f2
  have o3 : OB W' bs v' (x3 ++ [z]) := ⟨by simpa using ho, fun y hy => by
    rcases List.mem_append.1 hy with hy | hy
    · exact h3.2.2.1.2 y hy
    · simp at hy; subst hy; exact hz⟩
  refine ⟨ko.set (o + 2) v', ⟨?_, ?_, ?_, h3.2.2.2.1, ?_, ?_⟩, hfar, ?_⟩
  · exact ob_far (g := g) o1 _ _ (far v1 (Or.inl rfl))
  · exact ob_far (g := g) o2 _ _ (far v2 (Or.inr (Or.inl rfl)))
  · exact (ob_far (g := g) o3 _ _ hfar).mono hbs
  · intro k j hk hj
    have := h1 k hk
    have := o3.lt j hj
    omega
  · intro k j hk hj
    have := h2 k hk
    have := o3.lt j hj
    omega
  · have t1 : Turn (fun j => j = g ∨ v2.ownBlock = some j ∨ v3.ownBlock = some j) W (W.alloc (.cells #[.int .u8 z] 5)) := turn_alloc W _
    have t2 : Turn (fun j => j = g ∨ v2.ownBlock = some j ∨ v3.ownBlock = some j) (W.alloc (.cells #[.int .u8 z] 5)) W' :=
      ⟨hg.os, hg.tape, hg.output, hg.size, fun k hk hn => hg.block k hk (fun e => hn (Or.inr (Or.inr e.symm)))⟩
    have t3 : Turn (fun j => j = g ∨ v2.ownBlock = some j ∨ v3.ownBlock = some j) W' (W'.setCell ⟨g, o + 2, none⟩ v') :=
      ⟨rfl, rfl, rfl, by rw [size_setCell]; exact Nat.le_refl _, fun j hj hs => heap_setCell_other _ _ _ _ (fun e => hs (Or.inl e))⟩
    exact (t1.trans t2).trans t3
/-- where the bytes behind Out may lie -/
theorem own_base {W : World} {base : Nat} {v1 v2 v3 : Value} {x1 x2 x3 : List Int} (h : Own3 W base v1 v2 v3 x1 x2 x3) (hb : base ≤ W.heap.size) :
    ∃ bs, base ≤ bs ∧ bs ≤ W.heap.size ∧ (∀ k, v1.ownBlock = some k → k < bs) ∧ (∀ k, v2.ownBlock = some k → k < bs) ∧ W.ownsRow bs 5 1 v3 x3.length (x3.map (Value.int .u8)) := by
  obtain ⟨hl, ⟨h0, h0'⟩ | ⟨g, cap, cur, hv, hg, hh, a1, a2, a3, a4⟩⟩ := h.2.2.1.1
  · exact ⟨W.heap.size, hb, Nat.le_refl _, fun k hk => (h.1.lt k hk).2, fun k hk => (h.2.1.lt k hk).2, hl, .inl ⟨h0, h0'⟩⟩
  · exact ⟨g, hg, Nat.le_of_lt (Blk.lt (w := W) hh), fun k hk => h.2.2.2.2.1 k g hk (by rw [hv]; rfl), fun k hk => h.2.2.2.2.2 k g hk (by rw [hv]; rfl), hl, .inr ⟨g, cap, cur, hv, Nat.le_refl _, hh, a1, a2, a3, a4⟩⟩
/-- bytes of Ram put -/
theorem own_ram {W W' : World} {base g gg : Nat} {v1 v3 : Value} {n cap : Nat} {x1 x2 y2 x3 : List Int} (h3 : Own3 W base v1 (.slice (some ⟨g, 0, none⟩) n cap) v3 x1 x2 x3)
    (ho : Only g W W') (hy : OB W' base (.slice (some ⟨g, 0, none⟩) n cap) y2) : Own3 W' base v1 (.slice (some ⟨g, 0, none⟩) n cap) v3 x1 y2 x3 ∧ Turn (fun j => j = gg ∨ (Value.slice (some ⟨g, 0, none⟩) n cap).ownBlock = some j ∨ v3.ownBlock = some j) W W' := by
  refine ⟨⟨?_, hy, ?_, h3.2.2.2⟩, ?_⟩
  · exact only_ob ho h3.1 (fun e => Nat.lt_irrefl _ (h3.2.2.2.1 g g e rfl))
  · exact only_ob ho h3.2.2.1 (fun e => Nat.lt_irrefl _ (h3.2.2.2.2.2 g g rfl e))
  · obtain ⟨e1, e2, e3, e4, e5⟩ := ho
    refine ⟨by assumption, by assumption, by assumption, by omega, fun k hk hn => e2 k (fun e => hn (Or.inr (Or.inl (by rw [e]; rfl))))⟩

end Go.Proofs.YtngdgogjlpjjpaeGreat
