import Derived.Test.YtngdgogjlpjjpadGreatK32
namespace Go.Proofs.YtngdgogjlpjjpadGreat
open Go.RowKit
set_option linter.unusedVariables false

theorem hold_ram {w W W' : World} {base go g : Nat} {bx : Array Value} {v1 v3 : Value} {n cap : Nat} {x1 x2 y2 x3 : List Int} (h : Hold w W base go bx v1 (.slice (some ⟨g, 0, none⟩) n cap) v3 x1 x2 x3)
    (ho : Only g W W') (hy : OB W' base (.slice (some ⟨g, 0, none⟩) n cap) y2) : Hold w W' base go bx v1 (.slice (some ⟨g, 0, none⟩) n cap) v3 x1 y2 x3 := by
  have hb := h.big
  have hg := h.own.2.1.lt g rfl
  have hgo : g ≠ go := fun e => h.far _ (Or.inr (Or.inl rfl)) (by rw [← e]; rfl)
  refine ⟨only_below h.below ho (by omega), h.big, h.gobig, only_blk ho h.box (by omega), only_blk ho h.res (by omega), only_blk ho h.out (by omega), ⟨?_, hy, ?_, h.own.2.2.2⟩, h.far⟩
  · exact only_ob ho h.own.1 (fun e => Nat.lt_irrefl _ (h.own.2.2.2.1 g g e rfl))
  · exact only_ob ho h.own.2.2.1 (fun e => Nat.lt_irrefl _ (h.own.2.2.2.2.2 g g rfl e))
theorem ob_addr {w : World} {base n cap : Nat} {a : Option Addr} {zs : List Int} (h : OB w base (.slice a n cap) zs) (hn : n ≠ 0) : ∃ g, a = some ⟨g, 0, none⟩ := by
  obtain ⟨hl, ⟨h0, _⟩ | ⟨g, cap', cur, hv, _⟩⟩ := h.1
  · simp at h0; exact absurd h0.2.1 hn
  · simp at hv; exact ⟨g, hv.1⟩

set_option maxHeartbeats 1000000 in
theorem sWrite_ram4 (b1 o1 b2 o2 b3 o3 n1 c1 n2 c2 n3 c3 : Nat) (x1 x2 x3 : List Int) (k : Nat) (p : Int) (v : Int) (w : World) (h1 : BS w (some ⟨b1, o1, none⟩) n1 c1 x1) (h2 : BS w (some ⟨b2, o2, none⟩) n2 c2 x2) (h3 : BS w (some ⟨b3, o3, none⟩) n3 c3 x3) (hn : n1 + n2 + n3 ≤ 1048576) (hv : -9223372036854775808 ≤ v ∧ v ≤ 9223372036854775807) (h : mok n1 n2 n3 = true) (hm : (p % 4 != 0) = false) (hpk : p - 65536 = (k : Int)) (hk : k + 4 ≤ n2) :
    Calls Tryz.prog 166 #[.agg #[.slice (some ⟨b1, o1, none⟩) n1 c1, .slice (some ⟨b2, o2, none⟩) n2 c2, .slice (some ⟨b3, o3, none⟩) n3 c3], .int .i64 p, .int .i64 4, .int .i64 v] w (WrPost w (x1, put x2 k v 4, x3, 0)) := by
  have hB0 : Below w.heap.size w ((w.alloc (.cells #[.slice (some ⟨b1, o1, none⟩) n1 c1, .slice (some ⟨b2, o2, none⟩) n2 c2, .slice (some ⟨b3, o3, none⟩) n3 c3] 38)).alloc (.cells #[.slice none 0 0, .slice none 0 0, .slice none 0 0] 38)) := ((Below.refl _ _).alloc (Nat.le_refl _) _).alloc (by simp) _
  obtain ⟨l1, l2, l3⟩ := mok1 h
  have hp : (p == 131072) = false := by simp; omega
  have hi : ins p 4 0 n1 = false := by unfold ins; simp; omega
  have hj : ins p 4 65536 n2 = true := by unfold ins; simp; omega
  have hp0 : 65536 ≤ p := by omega
  have hp1 : p ≤ 131072 := by omega
  go_enter Tryz.func166, Tryz.ntmps166
  go_wp2_with fail
  refine (l1Copy_any b1 o1 b2 o2 b3 o3 n1 c1 n2 c2 n3 c3 x1 x2 x3 _ (h1.below hB0) (h2.below hB0) (h3.below hB0) hn).mono ?_
  rintro e w1 ⟨a1, d1, a2, d2, a3, d3, rfl, hO, hb1⟩
  obtain ⟨g2, rfl⟩ := ob_addr hO.2.1 (by omega)
  have H := hold_start (bx := #[.slice (some ⟨b1, o1, none⟩) n1 c1, .slice (some ⟨b2, o2, none⟩) n2 c2, .slice (some ⟨b3, o3, none⟩) n3 c3]) hO hb1
  have hgo := hb1.size
  simp only [World.size_alloc] at hgo
  clear hO hb1
  obtain ⟨q1, q2, q3, q4⟩ := H.box.three
  obtain ⟨q5, q6, q7, q8⟩ := H.res.three
  obtain ⟨q9, q10, q11, q12⟩ := H.out.three
  go_wp2_with fail
  refine (sMemOk_any (some ⟨b1, o1, none⟩) (some ⟨b2, o2, none⟩) (some ⟨b3, o3, none⟩) n1 c1 n2 c2 n3 c3 _).mono ?_
  rw [h]
  rintro e w2 ⟨rfl, hbx⟩
  have H := H.step hbx
  clear hbx q1 q2 q3 q4 q5 q6 q7 q8 q9 q10 q11 q12
  obtain ⟨q1, q2, q3, q4⟩ := H.box.three
  obtain ⟨q5, q6, q7, q8⟩ := H.res.three
  obtain ⟨q9, q10, q11, q12⟩ := H.out.three
  go_wp2_with fail
  refine (l1Size_any 4 _).mono ?_
  rw [wd4]
  rintro e wx ⟨rfl, rfl⟩
  go_wp2_with fail
  refine (l1Word_any v _ hv).mono ?_
  rintro e wx ⟨rfl, rfl⟩
  go_wp2_with fail
  refine (l1Inside_any _ 4 0 n1 _ (by omega) (by omega) (by omega) (by omega) (by omega)).mono ?_
  rw [hi]
  rintro e wx ⟨rfl, rfl⟩
  go_wp2_with fail
  refine (l1Inside_any _ 4 65536 n2 _ (by omega) (by omega) (by omega) (by omega) (by omega)).mono ?_
  rw [hj]
  rintro e wx ⟨rfl, rfl⟩
  go_wp2_with fail
  refine (l1Put_any g2 n2 d2 k 4 _ _ (ob_room H.own.2.1) (by omega) (by omega) (by omega) (by omega) (by omega) (by omega)).mono ?_
  rintro e w3 ⟨rfl, hw3⟩
  have H := hold_ram H (only_put g2 k (v % 4294967296) _ 4) (ob_put H.own.2.1 k (v % 4294967296) 4 (by omega))
  rw [(put_word x2 k v).1] at H
  have e3 : ((4 : Int).toNat) = 4 := rfl
  rw [e3] at hw3
  rw [← hw3] at H
  clear hw3 q1 q2 q3 q4 q5 q6 q7 q8 q9 q10 q11 q12 e3
  obtain ⟨q1, q2, q3, q4⟩ := H.box.three
  obtain ⟨q5, q6, q7, q8⟩ := H.res.three
  obtain ⟨q9, q10, q11, q12⟩ := H.out.three
  go_wp2
  refine bodyPost_ret (v := .tuple #[.agg #[.slice a1 n1 d1, .slice (some ⟨g2, 0, none⟩) n2 d2, .slice a3 n3 d3], .int .i64 0]) (by simp [results, Tryz.results166, go_sem, q5, q6, q7]) rfl ⟨a1, n1, d1, some ⟨g2, 0, none⟩, n2, d2, a3, n3, d3, rfl, H.done.1, H.done.2⟩

set_option maxHeartbeats 1000000 in
theorem sWrite_ram2 (b1 o1 b2 o2 b3 o3 n1 c1 n2 c2 n3 c3 : Nat) (x1 x2 x3 : List Int) (k : Nat) (p : Int) (v : Int) (w : World) (h1 : BS w (some ⟨b1, o1, none⟩) n1 c1 x1) (h2 : BS w (some ⟨b2, o2, none⟩) n2 c2 x2) (h3 : BS w (some ⟨b3, o3, none⟩) n3 c3 x3) (hn : n1 + n2 + n3 ≤ 1048576) (hv : -9223372036854775808 ≤ v ∧ v ≤ 9223372036854775807) (h : mok n1 n2 n3 = true) (hm : (p % 2 != 0) = false) (hpk : p - 65536 = (k : Int)) (hk : k + 2 ≤ n2) :
    Calls Tryz.prog 166 #[.agg #[.slice (some ⟨b1, o1, none⟩) n1 c1, .slice (some ⟨b2, o2, none⟩) n2 c2, .slice (some ⟨b3, o3, none⟩) n3 c3], .int .i64 p, .int .i64 2, .int .i64 v] w (WrPost w (x1, put x2 k v 2, x3, 0)) := by
  have hB0 : Below w.heap.size w ((w.alloc (.cells #[.slice (some ⟨b1, o1, none⟩) n1 c1, .slice (some ⟨b2, o2, none⟩) n2 c2, .slice (some ⟨b3, o3, none⟩) n3 c3] 38)).alloc (.cells #[.slice none 0 0, .slice none 0 0, .slice none 0 0] 38)) := ((Below.refl _ _).alloc (Nat.le_refl _) _).alloc (by simp) _
  obtain ⟨l1, l2, l3⟩ := mok1 h
  have hp : (p == 131072) = false := by simp; omega
  have hi : ins p 2 0 n1 = false := by unfold ins; simp; omega
  have hj : ins p 2 65536 n2 = true := by unfold ins; simp; omega
  have hp0 : 65536 ≤ p := by omega
  have hp1 : p ≤ 131072 := by omega
  go_enter Tryz.func166, Tryz.ntmps166
  go_wp2_with fail
  refine (l1Copy_any b1 o1 b2 o2 b3 o3 n1 c1 n2 c2 n3 c3 x1 x2 x3 _ (h1.below hB0) (h2.below hB0) (h3.below hB0) hn).mono ?_
  rintro e w1 ⟨a1, d1, a2, d2, a3, d3, rfl, hO, hb1⟩
  obtain ⟨g2, rfl⟩ := ob_addr hO.2.1 (by omega)
  have H := hold_start (bx := #[.slice (some ⟨b1, o1, none⟩) n1 c1, .slice (some ⟨b2, o2, none⟩) n2 c2, .slice (some ⟨b3, o3, none⟩) n3 c3]) hO hb1
  have hgo := hb1.size
  simp only [World.size_alloc] at hgo
  clear hO hb1
  obtain ⟨q1, q2, q3, q4⟩ := H.box.three
  obtain ⟨q5, q6, q7, q8⟩ := H.res.three
  obtain ⟨q9, q10, q11, q12⟩ := H.out.three
  go_wp2_with fail
  refine (sMemOk_any (some ⟨b1, o1, none⟩) (some ⟨b2, o2, none⟩) (some ⟨b3, o3, none⟩) n1 c1 n2 c2 n3 c3 _).mono ?_
  rw [h]
  rintro e w2 ⟨rfl, hbx⟩
  have H := H.step hbx
  clear hbx q1 q2 q3 q4 q5 q6 q7 q8 q9 q10 q11 q12
  obtain ⟨q1, q2, q3, q4⟩ := H.box.three
  obtain ⟨q5, q6, q7, q8⟩ := H.res.three
  obtain ⟨q9, q10, q11, q12⟩ := H.out.three
  go_wp2_with fail
  refine (l1Size_any 2 _).mono ?_
  rw [wd2]
  rintro e wx ⟨rfl, rfl⟩
  go_wp2_with fail
  refine (l1Word_any v _ hv).mono ?_
  rintro e wx ⟨rfl, rfl⟩
  go_wp2_with fail
  refine (l1Inside_any _ 2 0 n1 _ (by omega) (by omega) (by omega) (by omega) (by omega)).mono ?_
  rw [hi]
  rintro e wx ⟨rfl, rfl⟩
  go_wp2_with fail
  refine (l1Inside_any _ 2 65536 n2 _ (by omega) (by omega) (by omega) (by omega) (by omega)).mono ?_
  rw [hj]
  rintro e wx ⟨rfl, rfl⟩
  go_wp2_with fail
  refine (l1Put_any g2 n2 d2 k 2 _ _ (ob_room H.own.2.1) (by omega) (by omega) (by omega) (by omega) (by omega) (by omega)).mono ?_
  rintro e w3 ⟨rfl, hw3⟩
  have H := hold_ram H (only_put g2 k (v % 4294967296) _ 2) (ob_put H.own.2.1 k (v % 4294967296) 2 (by omega))
  rw [(put_word x2 k v).2.1] at H
  have e3 : ((2 : Int).toNat) = 2 := rfl
  rw [e3] at hw3
  rw [← hw3] at H
  clear hw3 q1 q2 q3 q4 q5 q6 q7 q8 q9 q10 q11 q12 e3
  obtain ⟨q1, q2, q3, q4⟩ := H.box.three
  obtain ⟨q5, q6, q7, q8⟩ := H.res.three
  obtain ⟨q9, q10, q11, q12⟩ := H.out.three
  go_wp2
  refine bodyPost_ret (v := .tuple #[.agg #[.slice a1 n1 d1, .slice (some ⟨g2, 0, none⟩) n2 d2, .slice a3 n3 d3], .int .i64 0]) (by simp [results, Tryz.results166, go_sem, q5, q6, q7]) rfl ⟨a1, n1, d1, some ⟨g2, 0, none⟩, n2, d2, a3, n3, d3, rfl, H.done.1, H.done.2⟩

set_option maxHeartbeats 1000000 in
theorem sWrite_ram1 (b1 o1 b2 o2 b3 o3 n1 c1 n2 c2 n3 c3 : Nat) (x1 x2 x3 : List Int) (k : Nat) (p : Int) (v : Int) (w : World) (h1 : BS w (some ⟨b1, o1, none⟩) n1 c1 x1) (h2 : BS w (some ⟨b2, o2, none⟩) n2 c2 x2) (h3 : BS w (some ⟨b3, o3, none⟩) n3 c3 x3) (hn : n1 + n2 + n3 ≤ 1048576) (hv : -9223372036854775808 ≤ v ∧ v ≤ 9223372036854775807) (h : mok n1 n2 n3 = true) (hm : (p % 1 != 0) = false) (hpk : p - 65536 = (k : Int)) (hk : k + 1 ≤ n2) :
    Calls Tryz.prog 166 #[.agg #[.slice (some ⟨b1, o1, none⟩) n1 c1, .slice (some ⟨b2, o2, none⟩) n2 c2, .slice (some ⟨b3, o3, none⟩) n3 c3], .int .i64 p, .int .i64 1, .int .i64 v] w (WrPost w (x1, put x2 k v 1, x3, 0)) := by
  have hB0 : Below w.heap.size w ((w.alloc (.cells #[.slice (some ⟨b1, o1, none⟩) n1 c1, .slice (some ⟨b2, o2, none⟩) n2 c2, .slice (some ⟨b3, o3, none⟩) n3 c3] 38)).alloc (.cells #[.slice none 0 0, .slice none 0 0, .slice none 0 0] 38)) := ((Below.refl _ _).alloc (Nat.le_refl _) _).alloc (by simp) _
  obtain ⟨l1, l2, l3⟩ := mok1 h
  have hp : (p == 131072) = false := by simp; omega
  have hi : ins p 1 0 n1 = false := by unfold ins; simp; omega
  have hj : ins p 1 65536 n2 = true := by unfold ins; simp; omega
  have hp0 : 65536 ≤ p := by omega
  have hp1 : p ≤ 131072 := by omega
  go_enter Tryz.func166, Tryz.ntmps166
  go_wp2_with fail
  refine (l1Copy_any b1 o1 b2 o2 b3 o3 n1 c1 n2 c2 n3 c3 x1 x2 x3 _ (h1.below hB0) (h2.below hB0) (h3.below hB0) hn).mono ?_
  rintro e w1 ⟨a1, d1, a2, d2, a3, d3, rfl, hO, hb1⟩
  obtain ⟨g2, rfl⟩ := ob_addr hO.2.1 (by omega)
  have H := hold_start (bx := #[.slice (some ⟨b1, o1, none⟩) n1 c1, .slice (some ⟨b2, o2, none⟩) n2 c2, .slice (some ⟨b3, o3, none⟩) n3 c3]) hO hb1
  have hgo := hb1.size
  simp only [World.size_alloc] at hgo
  clear hO hb1
  obtain ⟨q1, q2, q3, q4⟩ := H.box.three
  obtain ⟨q5, q6, q7, q8⟩ := H.res.three
  obtain ⟨q9, q10, q11, q12⟩ := H.out.three
  go_wp2_with fail
  refine (sMemOk_any (some ⟨b1, o1, none⟩) (some ⟨b2, o2, none⟩) (some ⟨b3, o3, none⟩) n1 c1 n2 c2 n3 c3 _).mono ?_
  rw [h]
  rintro e w2 ⟨rfl, hbx⟩
  have H := H.step hbx
  clear hbx q1 q2 q3 q4 q5 q6 q7 q8 q9 q10 q11 q12
  obtain ⟨q1, q2, q3, q4⟩ := H.box.three
  obtain ⟨q5, q6, q7, q8⟩ := H.res.three
  obtain ⟨q9, q10, q11, q12⟩ := H.out.three
  go_wp2_with fail
  refine (l1Size_any 1 _).mono ?_
  rw [wd1]
  rintro e wx ⟨rfl, rfl⟩
  go_wp2_with fail
  refine (l1Word_any v _ hv).mono ?_
  rintro e wx ⟨rfl, rfl⟩
  go_wp2_with fail
  refine (l1Inside_any _ 1 0 n1 _ (by omega) (by omega) (by omega) (by omega) (by omega)).mono ?_
  rw [hi]
  rintro e wx ⟨rfl, rfl⟩
  go_wp2_with fail
  refine (l1Inside_any _ 1 65536 n2 _ (by omega) (by omega) (by omega) (by omega) (by omega)).mono ?_
  rw [hj]
  rintro e wx ⟨rfl, rfl⟩
  go_wp2_with fail
  refine (l1Put_any g2 n2 d2 k 1 _ _ (ob_room H.own.2.1) (by omega) (by omega) (by omega) (by omega) (by omega) (by omega)).mono ?_
  rintro e w3 ⟨rfl, hw3⟩
  have H := hold_ram H (only_put g2 k (v % 4294967296) _ 1) (ob_put H.own.2.1 k (v % 4294967296) 1 (by omega))
  rw [(put_word x2 k v).2.2] at H
  have e3 : ((1 : Int).toNat) = 1 := rfl
  rw [e3] at hw3
  rw [← hw3] at H
  clear hw3 q1 q2 q3 q4 q5 q6 q7 q8 q9 q10 q11 q12 e3
  obtain ⟨q1, q2, q3, q4⟩ := H.box.three
  obtain ⟨q5, q6, q7, q8⟩ := H.res.three
  obtain ⟨q9, q10, q11, q12⟩ := H.out.three
  go_wp2
  refine bodyPost_ret (v := .tuple #[.agg #[.slice a1 n1 d1, .slice (some ⟨g2, 0, none⟩) n2 d2, .slice a3 n3 d3], .int .i64 0]) (by simp [results, Tryz.results166, go_sem, q5, q6, q7]) rfl ⟨a1, n1, d1, some ⟨g2, 0, none⟩, n2, d2, a3, n3, d3, rfl, H.done.1, H.done.2⟩

end Go.Proofs.YtngdgogjlpjjpadGreat
