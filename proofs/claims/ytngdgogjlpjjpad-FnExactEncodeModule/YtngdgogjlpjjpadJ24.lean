import Derived.Test.YtngdgogjlpjjpadJ21
import Derived.Test.YtngdgogjlpjjpadJ23
import Derived.Deep.RegionHeld3
namespace Go.Proofs.Ytngdgogjlpjjpad
open Go.RowKit
set_option linter.unusedVariables false
set_option linter.unusedSimpArgs false
set_option maxRecDepth 100000

set_option maxHeartbeats 4000000 in
theorem eqModule_same (nm : ByteArray) (ta ta' : Option Addr) (tn tc tc' : Nat) (tz : List Int) (ba ba' : Option Addr) (bn bc bc' : Nat) (bl bl' : List Bk) (da da' : Option Addr) (dn dc dc' : Nat) (dz : List Int) (bss : Int) (ra ra' : Option Addr) (rn rc rc' : Nat) (rz : List Int) (ia ia' : Option Addr) (im ic ic' : Nat) (ss : List ByteArray) (ea ea' : Option Addr) (en ec ec' : Nat) (es : List Ex) (w : World) (h : MT w nm ta tn tc tz ba bn bc bl da dn dc dz bss ra rn rc rz ia im ic ss ea en ec es) (h' : MT w nm ta' tn tc' tz ba' bn bc' bl' da' dn dc' dz bss ra' rn rc' rz ia' im ic' ss ea' en ec' es) (hz : ∀ i, i < bn → (bl'.getD i zB).2.1 = (bl.getD i zB).2.1 ∧ (bl'.getD i zB).2.2.2 = (bl.getD i zB).2.2.2) :
    Calls Try.prog 14 #[.agg #[.string nm, .slice ta tn tc, .slice ba bn bc, .slice da dn dc, .int .i64 bss, .slice ra rn rc, .slice ia im ic, .slice ea en ec], .agg #[.string nm, .slice ta' tn tc', .slice ba' bn bc', .slice da' dn dc', .int .i64 bss, .slice ra' rn rc', .slice ia' im ic', .slice ea' en ec']] w fun e w' => e = .returned (.bool true) ∧ Below w.heap.size w w' := by
  have hB0 : Below w.heap.size w ((w.alloc (.cells #[.string nm, .slice ta tn tc, .slice ba bn bc, .slice da dn dc, .int .i64 bss, .slice ra rn rc, .slice ia im ic, .slice ea en ec] 29)).alloc (.cells #[.string nm, .slice ta' tn tc', .slice ba' bn bc', .slice da' dn dc', .int .i64 bss, .slice ra' rn rc', .slice ia' im ic', .slice ea' en ec'] 29)) := ((Below.refl _ _).alloc (Nat.le_refl _) _).alloc (by simp) _
  have u0 := (Blk.new w #[.string nm, .slice ta tn tc, .slice ba bn bc, .slice da dn dc, .int .i64 bss, .slice ra rn rc, .slice ia im ic, .slice ea en ec] 29).alloc (.cells #[.string nm, .slice ta' tn tc', .slice ba' bn bc', .slice da' dn dc', .int .i64 bss, .slice ra' rn rc', .slice ia' im ic', .slice ea' en ec'] 29)
  have v0 := Blk.new (w.alloc (.cells #[.string nm, .slice ta tn tc, .slice ba bn bc, .slice da dn dc, .int .i64 bss, .slice ra rn rc, .slice ia im ic, .slice ea en ec] 29)) #[.string nm, .slice ta' tn tc', .slice ba' bn bc', .slice da' dn dc', .int .i64 bss, .slice ra' rn rc', .slice ia' im ic', .slice ea' en ec'] 29
  simp only [World.size_alloc] at v0
  have hn : (nm.toList != nm.toList) = false := by simp
  have hs : (bss != bss) = false := by simp
  go_enter Try.func14, Try.ntmps14
  go_wp2_with fail
  refine (eqIntS_any ta ta' tn tc tn tc' tz tz _ (h.t.below hB0) (h'.t.below hB0)).mono ?_
  rw [decide_eq_true rfl]
  rintro e w1 ⟨rfl, hb⟩
  have hB1 := hB0.trans (hb.mono (by have := hB0.size; simp; omega))
  have u1 := u0.below hb
  have v1 := v0.below hb
  clear hb u0 v0
  obtain ⟨q0, q1, q2, q3, q4, q5, q6, q7⟩ := u1.eight
  obtain ⟨p0, p1, p2, p3, p4, p5, p6, p7⟩ := v1.eight
  go_wp2_with fail
  refine (eqIntSS_same ba ba' bn bc bc' bl bl' _ (h.b.below hB1) (h'.b.below hB1) hz).mono ?_
  rintro e w2 ⟨rfl, hb⟩
  have hB2 := hB1.trans (hb.mono (by have := hB1.size; omega))
  have u2 := u1.below hb
  have v2 := v1.below hb
  clear hb u1 v1 q0 q1 q2 q3 q4 q5 q6 q7 p0 p1 p2 p3 p4 p5 p6 p7
  obtain ⟨q0, q1, q2, q3, q4, q5, q6, q7⟩ := u2.eight
  obtain ⟨p0, p1, p2, p3, p4, p5, p6, p7⟩ := v2.eight
  go_wp2_with fail
  refine (eqByteS_any da da' dn dc dn dc' dz dz _ (h.d.below hB2) (h'.d.below hB2)).mono ?_
  rw [decide_eq_true rfl]
  rintro e w3 ⟨rfl, hb⟩
  have hB3 := hB2.trans (hb.mono (by have := hB2.size; omega))
  have u3 := u2.below hb
  have v3 := v2.below hb
  clear hb u2 v2 q0 q1 q2 q3 q4 q5 q6 q7 p0 p1 p2 p3 p4 p5 p6 p7
  obtain ⟨q0, q1, q2, q3, q4, q5, q6, q7⟩ := u3.eight
  obtain ⟨p0, p1, p2, p3, p4, p5, p6, p7⟩ := v3.eight
  go_wp2_with fail
  refine (eqIntS_any ra ra' rn rc rn rc' rz rz _ (h.r.below hB3) (h'.r.below hB3)).mono ?_
  rw [decide_eq_true rfl]
  rintro e w4 ⟨rfl, hb⟩
  have hB4 := hB3.trans (hb.mono (by have := hB3.size; omega))
  have u4 := u3.below hb
  have v4 := v3.below hb
  clear hb u3 v3 q0 q1 q2 q3 q4 q5 q6 q7 p0 p1 p2 p3 p4 p5 p6 p7
  obtain ⟨q0, q1, q2, q3, q4, q5, q6, q7⟩ := u4.eight
  obtain ⟨p0, p1, p2, p3, p4, p5, p6, p7⟩ := v4.eight
  go_wp2_with fail
  refine (eqStringS_same ia ia' im ic ic' ss _ (h.i.below hB4) (h'.i.below hB4)).mono ?_
  rintro e w5 ⟨rfl, hb⟩
  have hB5 := hB4.trans (hb.mono (by have := hB4.size; omega))
  have u5 := u4.below hb
  have v5 := v4.below hb
  clear hb u4 v4 q0 q1 q2 q3 q4 q5 q6 q7 p0 p1 p2 p3 p4 p5 p6 p7
  obtain ⟨q0, q1, q2, q3, q4, q5, q6, q7⟩ := u5.eight
  obtain ⟨p0, p1, p2, p3, p4, p5, p6, p7⟩ := v5.eight
  go_wp2_with fail
  refine (eqExportS_same ea ea' en ec ec' es _ (h.e.below hB5) (h'.e.below hB5)).mono ?_
  rintro e w6 ⟨rfl, hb⟩
  have hB6 := hB5.trans (hb.mono (by have := hB5.size; omega))
  have u6 := u5.below hb
  have v6 := v5.below hb
  clear hb u5 v5 q0 q1 q2 q3 q4 q5 q6 q7 p0 p1 p2 p3 p4 p5 p6 p7
  obtain ⟨q0, q1, q2, q3, q4, q5, q6, q7⟩ := u6.eight
  obtain ⟨p0, p1, p2, p3, p4, p5, p6, p7⟩ := v6.eight
  go_wp2
  go_ret
  exact ⟨rfl, hB6⟩

theorem mt_of_rows {nm : ByteArray} {ta : Option Addr} {tn tc : Nat} {tz : List Int} {ba : Option Addr} {bn bc : Nat} {bl : List Bk} {da : Option Addr} {dn dc : Nat} {dz : List Int} {bss : Int} {ra : Option Addr} {rn rc : Nat} {rz : List Int} {ia : Option Addr} {im ic : Nat} {ss : List ByteArray} {ea : Option Addr} {en ec : Nat} {es : List Ex} {w W : World} {g1 g2 g3 g5 g6 g7 : Nat} {gs : List Nat} (h : MT w nm ta tn tc tz ba bn bc bl da dn dc dz bss ra rn rc rz ia im ic ss ea en ec es) (hg : gs.length = bn)
    (r1 : RowI W g1 tz) (r2 : RowB W g2 bn gs bl) (r3 : Row8 W g3 dz) (r5 : RowI W g5 rz) (r6 : RowT W g6 ss) (r7 : RowX W g7 es) : MT W nm (some ⟨g1, 0, none⟩) tn tn tz (some ⟨g2, 0, none⟩) bn bn (reb gs bl) (some ⟨g3, 0, none⟩) dn dn dz bss (some ⟨g5, 0, none⟩) rn rn rz (some ⟨g6, 0, none⟩) im im ss (some ⟨g7, 0, none⟩) en en es where
  n := h.n
  t := r1.is (by rw [h.t.1]; exact h.t.2.1) h.t.2.2.1 _ _ h.t.1
  b := r2.bks h.b hg
  d := r3.bs (by rw [h.d.1]; exact h.d.2.1) h.d.2.2.1 _ _ h.d.1
  s := h.s
  r := r5.is (by rw [h.r.1]; exact h.r.2.1) h.r.2.2.1 _ _ h.r.1
  i := ⟨h.i.1, h.i.2.1, h.i.2.2.1, fun _ => ⟨g6, 0, rfl, fun i hi => by rw [Nat.zero_add]; exact r6.cell i (by rw [h.i.1]; exact hi)⟩, Nat.le_refl _⟩
  e := r7.te h.e
theorem md_of_mt {nm : ByteArray} {ta : Option Addr} {tn tc : Nat} {tz : List Int} {ba : Option Addr} {bn bc : Nat} {bl : List Bk} {da : Option Addr} {dn dc : Nat} {dz : List Int} {bss : Int} {ra : Option Addr} {rn rc : Nat} {rz : List Int} {ia : Option Addr} {im ic : Nat} {ss : List ByteArray} {ea : Option Addr} {en ec : Nat} {es : List Ex} {w : World} (h : MT w nm ta tn tc tz ba bn bc bl da dn dc dz bss ra rn rc rz ia im ic ss ea en ec es) (hs : mdSize nm tn bn bl dn rn im ss en es ≤ 1048576) : MD w nm ta tn tc tz ba bn bc bl da dn dc dz bss ra rn rc rz ia im ic ss ea en ec es where
  n := by unfold mdSize at hs; omega
  t := h.t
  b := h.b
  d := h.d
  s := h.s
  r := h.r
  i := h.i.ss (by unfold mdSize at hs; omega)
  e := h.e.es (by unfold mdSize at hs; omega)
theorem reb_size (gs : List Nat) (nm : ByteArray) (tn bn : Nat) (bl : List Bk) (dn rn im : Nat) (ss : List ByteArray) (en : Nat) (es : List Ex) (h : bl.length = bn) : mdSize nm tn bn (reb gs bl) dn rn im ss en es = mdSize nm tn bn bl dn rn im ss en es := by
  have key : ∀ k, k ≤ bn → upS (fun j => ((reb gs bl).getD j zB).2.1) k = upS (fun j => (bl.getD j zB).2.1) k := by
    intro k
    induction k with
    | zero => intro _; rfl
    | succ k ih =>
      intro hk
      show upS _ k + _ = upS _ k + _
      rw [ih (by omega)]
      congr 1
      simp only
      rw [reb_at _ _ _ (by omega)]
  unfold mdSize
  rw [key bn (Nat.le_refl _)]

end Go.Proofs.Ytngdgogjlpjjpad

namespace Go.Proofs.Ytngdgogjlpjjpad
open Go.RowKit
set_option linter.unusedVariables false
set_option linter.unusedSimpArgs false
set_option maxRecDepth 100000

/-- a number as bytes, the least first -/
def encN (v : Int) (s : Nat) : List Int := (List.range s).map (bt v)
theorem encN_len (v : Int) (s : Nat) : (encN v s).length = s := by simp [encN]
theorem encN_range (v : Int) (s : Nat) : ∀ z ∈ encN v s, 0 ≤ z ∧ z ≤ 255 := by
  intro z hz
  simp only [encN, List.mem_map] at hz
  obtain ⟨j, _, rfl⟩ := hz
  exact bt_range v j
theorem put_enc (v : Int) : ∀ s, s ≤ 4 → put (List.replicate s 0) 0 v s = encN v s
  | 0, _ => rfl
  | 1, _ => rfl
  | 2, _ => rfl
  | 3, _ => rfl
  | 4, _ => rfl
  | s + 5, h => by omega

theorem row_obE {w : World} {g base n : Nat} {zs : List Int} (h : Row8 w g zs) (hb : base ≤ g) (hn : zs.length = n) (hm : n ≤ maxLen) (hr : ∀ z ∈ zs, 0 ≤ z ∧ z ≤ 255) : OB w base (.slice (some ⟨g, 0, none⟩) n n) zs := by
  subst hn
  exact ⟨⟨by simp, .inr ⟨g, zs.length, _, rfl, hb, h, Nat.le_refl _, hm, by simp, by rw [List.take_of_length_le (by simp)]⟩⟩, hr⟩

set_option maxHeartbeats 1000000 in
theorem l4Num_any (v : Int) (s : Nat) (w : World) (hs : s = 1 ∨ s = 2 ∨ s = 4) (h0 : 0 ≤ v) (h1 : v ≤ 4294967295) :
    Calls Try.prog 45 #[.int .i64 v, .int .i64 s] w fun e w' => e = .returned (.slice (some ⟨w.heap.size, 0, none⟩) s s) ∧ OB w' w.heap.size (.slice (some ⟨w.heap.size, 0, none⟩) s s) (encN v s) ∧ Below w.heap.size w w' := by
  obtain ⟨i0, hi, hz0, hz1, hz2⟩ := info_parts info8
  have hs4 : s ≤ 4 := by omega
  have hs1 : 1 ≤ s := by omega
  clear hs
  go_enter Try.func45, Try.ntmps45
  go_wp2_with (at_make; refine wpList_make_full _ rfl _ _ 22 rfl w.heap.size 5 i0 (.int .u8 0) 1 Try.underlying22 hi hz0 hz1 .i64 .i64 _ _ s rfl rfl rfl rfl (by rw [hz2]; omega) (by unfold maxLen; omega) (Nat.le_refl _) ?_; intro w1 hown hgr)
  have hrow := row_of_made hown
  have hbel := below_grown hgr
  clear hown hgr hi hz0 hz1 hz2
  have ho := row_obE (n := s) hrow (Nat.le_refl w.heap.size) (by simp) (by unfold maxLen; omega) (by intro z hz; simp at hz; omega)
  go_wp2_with fail
  refine (l1Put_any w.heap.size s s 0 s v w1 (ob_room ho) (by omega) (by omega) (by omega) (by omega) h0 h1).mono ?_
  rintro e w2 ⟨rfl, rfl⟩
  have hp := ob_put ho 0 v s (by omega)
  rw [put_enc v s hs4] at hp
  have hbp := only_below hbel (only_put w.heap.size 0 v w1 s) (Nat.le_refl _)
  have HX := hide (And.intro hp hbp)
  clear hp hbp ho hbel hrow
  have e : (s : Int).toNat = s := by omega
  rw [e]
  generalize putW w1 w.heap.size 0 v s = W at *
  go_wp2
  go_ret
  exact ⟨rfl, HX.out.1, HX.out.2⟩
end Go.Proofs.Ytngdgogjlpjjpad
