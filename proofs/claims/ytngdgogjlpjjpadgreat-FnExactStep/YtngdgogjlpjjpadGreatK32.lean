import Derived.Test.YtngdgogjlpjjpadGreatK08
namespace Go.Proofs.YtngdgogjlpjjpadGreat
open Go.RowKit
set_option linter.unusedVariables false

theorem hold_start {w w1 : World} {bx : Array Value} {v1 v2 v3 : Value} {x1 x2 x3 : List Int}
    (hO : Own3 w1 ((w.alloc (.cells bx 38)).alloc (.cells #[.slice none 0 0, .slice none 0 0, .slice none 0 0] 38)).heap.size v1 v2 v3 x1 x2 x3) (hb1 : Below ((w.alloc (.cells bx 38)).alloc (.cells #[.slice none 0 0, .slice none 0 0, .slice none 0 0] 38)).heap.size ((w.alloc (.cells bx 38)).alloc (.cells #[.slice none 0 0, .slice none 0 0, .slice none 0 0] 38)) w1) :
    Hold w (w1.alloc (.cells #[v1, v2, v3] 38)) (w.heap.size + 2) w1.heap.size bx v1 v2 v3 x1 x2 x3 := by
  have hs := hb1.size
  have hB0 : Below w.heap.size w ((w.alloc (.cells bx 38)).alloc (.cells #[.slice none 0 0, .slice none 0 0, .slice none 0 0] 38)) := ((Below.refl _ _).alloc (Nat.le_refl _) _).alloc (by simp) _
  have kr := Blk.new (w.alloc (.cells bx 38)) #[.slice none 0 0, .slice none 0 0, .slice none 0 0] 38
  simp only [World.size_alloc] at hs hO kr
  refine ⟨(hB0.trans (hb1.mono (by simp; omega))).alloc (by omega) _, Nat.le_refl _, by omega, (((Blk.new w bx 38).alloc _).below hb1).alloc _, (kr.below hb1).alloc _, Blk.new w1 _ _, own3_alloc hO _, ?_⟩
  intro v hv e
  rcases hv with rfl | rfl | rfl
  · have := hO.1.lt _ e; omega
  · have := hO.2.1.lt _ e; omega
  · have := hO.2.2.1.lt _ e; omega

set_option maxHeartbeats 1000000 in
theorem sWrite_badm (b1 o1 b2 o2 b3 o3 n1 c1 n2 c2 n3 c3 : Nat) (x1 x2 x3 : List Int) (p s : Int) (v : Int) (w : World) (h1 : BS w (some ⟨b1, o1, none⟩) n1 c1 x1) (h2 : BS w (some ⟨b2, o2, none⟩) n2 c2 x2) (h3 : BS w (some ⟨b3, o3, none⟩) n3 c3 x3) (hn : n1 + n2 + n3 ≤ 1048576) (hv : -9223372036854775808 ≤ v ∧ v ≤ 9223372036854775807) (h : mok n1 n2 n3 = false) :
    Calls Tryz.prog 166 #[.agg #[.slice (some ⟨b1, o1, none⟩) n1 c1, .slice (some ⟨b2, o2, none⟩) n2 c2, .slice (some ⟨b3, o3, none⟩) n3 c3], .int .i64 p, .int .i64 s, .int .i64 v] w (WrPost w (x1, x2, x3, 2)) := by
  have hB0 : Below w.heap.size w ((w.alloc (.cells #[.slice (some ⟨b1, o1, none⟩) n1 c1, .slice (some ⟨b2, o2, none⟩) n2 c2, .slice (some ⟨b3, o3, none⟩) n3 c3] 38)).alloc (.cells #[.slice none 0 0, .slice none 0 0, .slice none 0 0] 38)) := ((Below.refl _ _).alloc (Nat.le_refl _) _).alloc (by simp) _
  go_enter Tryz.func166, Tryz.ntmps166
  go_wp2_with fail
  refine (l1Copy_any b1 o1 b2 o2 b3 o3 n1 c1 n2 c2 n3 c3 x1 x2 x3 _ (h1.below hB0) (h2.below hB0) (h3.below hB0) hn).mono ?_
  rintro e w1 ⟨a1, d1, a2, d2, a3, d3, rfl, hO, hb1⟩
  have H := hold_start (bx := #[.slice (some ⟨b1, o1, none⟩) n1 c1, .slice (some ⟨b2, o2, none⟩) n2 c2, .slice (some ⟨b3, o3, none⟩) n3 c3]) hO hb1
  have hgo := hb1.size
  simp only [World.size_alloc] at hgo
  clear hO hb1
  obtain ⟨q1, q2, q3, q4⟩ := H.box.three
  obtain ⟨q5, q6, q7, q8⟩ := H.res.three
  obtain ⟨q9, q10, q11, q12⟩ := H.out.three
  go_wp2_with fail
  refine (sMemOk_any (some ⟨b1, o1, none⟩) (some ⟨b2, o2, none⟩) (some ⟨b3, o3, none⟩) n1 c1 n2 c2 n3 c3 _).mono ?_
  rw [h]
  rintro e w2 ⟨rfl, hbx⟩
  have H := H.step hbx
  clear hbx q1 q2 q3 q4 q5 q6 q7 q8 q9 q10 q11 q12
  obtain ⟨q1, q2, q3, q4⟩ := H.box.three
  obtain ⟨q5, q6, q7, q8⟩ := H.res.three
  obtain ⟨q9, q10, q11, q12⟩ := H.out.three
  go_wp2
  refine bodyPost_ret (v := .tuple #[.agg #[.slice a1 n1 d1, .slice a2 n2 d2, .slice a3 n3 d3], .int .i64 2]) (by simp [results, Tryz.results166, go_sem, q5, q6, q7]) rfl ⟨a1, n1, d1, a2, n2, d2, a3, n3, d3, rfl, H.done.1, H.done.2⟩

set_option maxHeartbeats 1000000 in
theorem sWrite_bads (b1 o1 b2 o2 b3 o3 n1 c1 n2 c2 n3 c3 : Nat) (x1 x2 x3 : List Int) (p s : Int) (v : Int) (w : World) (h1 : BS w (some ⟨b1, o1, none⟩) n1 c1 x1) (h2 : BS w (some ⟨b2, o2, none⟩) n2 c2 x2) (h3 : BS w (some ⟨b3, o3, none⟩) n3 c3 x3) (hn : n1 + n2 + n3 ≤ 1048576) (hv : -9223372036854775808 ≤ v ∧ v ≤ 9223372036854775807) (h : mok n1 n2 n3 = true) (hs : wd s = false) :
    Calls Tryz.prog 166 #[.agg #[.slice (some ⟨b1, o1, none⟩) n1 c1, .slice (some ⟨b2, o2, none⟩) n2 c2, .slice (some ⟨b3, o3, none⟩) n3 c3], .int .i64 p, .int .i64 s, .int .i64 v] w (WrPost w (x1, x2, x3, 2)) := by
  have hB0 : Below w.heap.size w ((w.alloc (.cells #[.slice (some ⟨b1, o1, none⟩) n1 c1, .slice (some ⟨b2, o2, none⟩) n2 c2, .slice (some ⟨b3, o3, none⟩) n3 c3] 38)).alloc (.cells #[.slice none 0 0, .slice none 0 0, .slice none 0 0] 38)) := ((Below.refl _ _).alloc (Nat.le_refl _) _).alloc (by simp) _
  go_enter Tryz.func166, Tryz.ntmps166
  go_wp2_with fail
  refine (l1Copy_any b1 o1 b2 o2 b3 o3 n1 c1 n2 c2 n3 c3 x1 x2 x3 _ (h1.below hB0) (h2.below hB0) (h3.below hB0) hn).mono ?_
  rintro e w1 ⟨a1, d1, a2, d2, a3, d3, rfl, hO, hb1⟩
  have H := hold_start (bx := #[.slice (some ⟨b1, o1, none⟩) n1 c1, .slice (some ⟨b2, o2, none⟩) n2 c2, .slice (some ⟨b3, o3, none⟩) n3 c3]) hO hb1
  have hgo := hb1.size
  simp only [World.size_alloc] at hgo
  clear hO hb1
  obtain ⟨q1, q2, q3, q4⟩ := H.box.three
  obtain ⟨q5, q6, q7, q8⟩ := H.res.three
  obtain ⟨q9, q10, q11, q12⟩ := H.out.three
  go_wp2_with fail
  refine (sMemOk_any (some ⟨b1, o1, none⟩) (some ⟨b2, o2, none⟩) (some ⟨b3, o3, none⟩) n1 c1 n2 c2 n3 c3 _).mono ?_
  rw [h]
  rintro e w2 ⟨rfl, hbx⟩
  have H := H.step hbx
  clear hbx q1 q2 q3 q4 q5 q6 q7 q8 q9 q10 q11 q12
  obtain ⟨q1, q2, q3, q4⟩ := H.box.three
  obtain ⟨q5, q6, q7, q8⟩ := H.res.three
  obtain ⟨q9, q10, q11, q12⟩ := H.out.three
  go_wp2_with fail
  refine (l1Size_any s _).mono ?_
  rw [hs]
  rintro e wx ⟨rfl, rfl⟩
  go_wp2
  refine bodyPost_ret (v := .tuple #[.agg #[.slice a1 n1 d1, .slice a2 n2 d2, .slice a3 n3 d3], .int .i64 2]) (by simp [results, Tryz.results166, go_sem, q5, q6, q7]) rfl ⟨a1, n1, d1, a2, n2, d2, a3, n3, d3, rfl, H.done.1, H.done.2⟩

set_option maxHeartbeats 1000000 in
theorem sWrite_mis4 (b1 o1 b2 o2 b3 o3 n1 c1 n2 c2 n3 c3 : Nat) (x1 x2 x3 : List Int) (p : Int) (v : Int) (w : World) (h1 : BS w (some ⟨b1, o1, none⟩) n1 c1 x1) (h2 : BS w (some ⟨b2, o2, none⟩) n2 c2 x2) (h3 : BS w (some ⟨b3, o3, none⟩) n3 c3 x3) (hn : n1 + n2 + n3 ≤ 1048576) (hv : -9223372036854775808 ≤ v ∧ v ≤ 9223372036854775807) (h : mok n1 n2 n3 = true) (hm : (p.tmod 4 != 0) = true) :
    Calls Tryz.prog 166 #[.agg #[.slice (some ⟨b1, o1, none⟩) n1 c1, .slice (some ⟨b2, o2, none⟩) n2 c2, .slice (some ⟨b3, o3, none⟩) n3 c3], .int .i64 p, .int .i64 4, .int .i64 v] w (WrPost w (x1, x2, x3, 1)) := by
  have hB0 : Below w.heap.size w ((w.alloc (.cells #[.slice (some ⟨b1, o1, none⟩) n1 c1, .slice (some ⟨b2, o2, none⟩) n2 c2, .slice (some ⟨b3, o3, none⟩) n3 c3] 38)).alloc (.cells #[.slice none 0 0, .slice none 0 0, .slice none 0 0] 38)) := ((Below.refl _ _).alloc (Nat.le_refl _) _).alloc (by simp) _
  go_enter Tryz.func166, Tryz.ntmps166
  go_wp2_with fail
  refine (l1Copy_any b1 o1 b2 o2 b3 o3 n1 c1 n2 c2 n3 c3 x1 x2 x3 _ (h1.below hB0) (h2.below hB0) (h3.below hB0) hn).mono ?_
  rintro e w1 ⟨a1, d1, a2, d2, a3, d3, rfl, hO, hb1⟩
  have H := hold_start (bx := #[.slice (some ⟨b1, o1, none⟩) n1 c1, .slice (some ⟨b2, o2, none⟩) n2 c2, .slice (some ⟨b3, o3, none⟩) n3 c3]) hO hb1
  have hgo := hb1.size
  simp only [World.size_alloc] at hgo
  clear hO hb1
  obtain ⟨q1, q2, q3, q4⟩ := H.box.three
  obtain ⟨q5, q6, q7, q8⟩ := H.res.three
  obtain ⟨q9, q10, q11, q12⟩ := H.out.three
  go_wp2_with fail
  refine (sMemOk_any (some ⟨b1, o1, none⟩) (some ⟨b2, o2, none⟩) (some ⟨b3, o3, none⟩) n1 c1 n2 c2 n3 c3 _).mono ?_
  rw [h]
  rintro e w2 ⟨rfl, hbx⟩
  have H := H.step hbx
  clear hbx q1 q2 q3 q4 q5 q6 q7 q8 q9 q10 q11 q12
  obtain ⟨q1, q2, q3, q4⟩ := H.box.three
  obtain ⟨q5, q6, q7, q8⟩ := H.res.three
  obtain ⟨q9, q10, q11, q12⟩ := H.out.three
  go_wp2_with fail
  refine (l1Size_any 4 _).mono ?_
  rw [wd4]
  rintro e wx ⟨rfl, rfl⟩
  go_wp2
  refine bodyPost_ret (v := .tuple #[.agg #[.slice a1 n1 d1, .slice a2 n2 d2, .slice a3 n3 d3], .int .i64 1]) (by simp [results, Tryz.results166, go_sem, q5, q6, q7]) rfl ⟨a1, n1, d1, a2, n2, d2, a3, n3, d3, rfl, H.done.1, H.done.2⟩

set_option maxHeartbeats 1000000 in
theorem sWrite_full4 (b1 o1 b2 o2 b3 o3 n1 c1 n2 c2 n3 c3 : Nat) (x1 x2 x3 : List Int)  (v : Int) (w : World) (h1 : BS w (some ⟨b1, o1, none⟩) n1 c1 x1) (h2 : BS w (some ⟨b2, o2, none⟩) n2 c2 x2) (h3 : BS w (some ⟨b3, o3, none⟩) n3 c3 x3) (hn : n1 + n2 + n3 ≤ 1048576) (hv : -9223372036854775808 ≤ v ∧ v ≤ 9223372036854775807) (h : mok n1 n2 n3 = true) (hfull : 5000 ≤ n3) :
    Calls Tryz.prog 166 #[.agg #[.slice (some ⟨b1, o1, none⟩) n1 c1, .slice (some ⟨b2, o2, none⟩) n2 c2, .slice (some ⟨b3, o3, none⟩) n3 c3], .int .i64 131072, .int .i64 4, .int .i64 v] w (WrPost w (x1, x2, x3, 4)) := by
  have hB0 : Below w.heap.size w ((w.alloc (.cells #[.slice (some ⟨b1, o1, none⟩) n1 c1, .slice (some ⟨b2, o2, none⟩) n2 c2, .slice (some ⟨b3, o3, none⟩) n3 c3] 38)).alloc (.cells #[.slice none 0 0, .slice none 0 0, .slice none 0 0] 38)) := ((Below.refl _ _).alloc (Nat.le_refl _) _).alloc (by simp) _
  have hfull' : (5000 : Int) ≤ (n3 : Int) := by omega
  go_enter Tryz.func166, Tryz.ntmps166
  go_wp2_with fail
  refine (l1Copy_any b1 o1 b2 o2 b3 o3 n1 c1 n2 c2 n3 c3 x1 x2 x3 _ (h1.below hB0) (h2.below hB0) (h3.below hB0) hn).mono ?_
  rintro e w1 ⟨a1, d1, a2, d2, a3, d3, rfl, hO, hb1⟩
  have H := hold_start (bx := #[.slice (some ⟨b1, o1, none⟩) n1 c1, .slice (some ⟨b2, o2, none⟩) n2 c2, .slice (some ⟨b3, o3, none⟩) n3 c3]) hO hb1
  have hgo := hb1.size
  simp only [World.size_alloc] at hgo
  clear hO hb1
  obtain ⟨q1, q2, q3, q4⟩ := H.box.three
  obtain ⟨q5, q6, q7, q8⟩ := H.res.three
  obtain ⟨q9, q10, q11, q12⟩ := H.out.three
  go_wp2_with fail
  refine (sMemOk_any (some ⟨b1, o1, none⟩) (some ⟨b2, o2, none⟩) (some ⟨b3, o3, none⟩) n1 c1 n2 c2 n3 c3 _).mono ?_
  rw [h]
  rintro e w2 ⟨rfl, hbx⟩
  have H := H.step hbx
  clear hbx q1 q2 q3 q4 q5 q6 q7 q8 q9 q10 q11 q12
  obtain ⟨q1, q2, q3, q4⟩ := H.box.three
  obtain ⟨q5, q6, q7, q8⟩ := H.res.three
  obtain ⟨q9, q10, q11, q12⟩ := H.out.three
  go_wp2_with fail
  refine (l1Size_any 4 _).mono ?_
  rw [wd4]
  rintro e wx ⟨rfl, rfl⟩
  go_wp2_with fail
  refine (l1Word_any v _ hv).mono ?_
  rintro e wx ⟨rfl, rfl⟩
  go_wp2
  refine bodyPost_ret (v := .tuple #[.agg #[.slice a1 n1 d1, .slice a2 n2 d2, .slice a3 n3 d3], .int .i64 4]) (by simp [results, Tryz.results166, go_sem, q5, q6, q7]) rfl ⟨a1, n1, d1, a2, n2, d2, a3, n3, d3, rfl, H.done.1, H.done.2⟩

set_option maxHeartbeats 1000000 in
theorem sWrite_flash4 (b1 o1 b2 o2 b3 o3 n1 c1 n2 c2 n3 c3 : Nat) (x1 x2 x3 : List Int) (p : Int) (v : Int) (w : World) (h1 : BS w (some ⟨b1, o1, none⟩) n1 c1 x1) (h2 : BS w (some ⟨b2, o2, none⟩) n2 c2 x2) (h3 : BS w (some ⟨b3, o3, none⟩) n3 c3 x3) (hn : n1 + n2 + n3 ≤ 1048576) (hv : -9223372036854775808 ≤ v ∧ v ≤ 9223372036854775807) (h : mok n1 n2 n3 = true) (hm : (p.tmod 4 != 0) = false) (hp : (p == 131072) = false) (hi : ins p 4 0 n1 = true) :
    Calls Tryz.prog 166 #[.agg #[.slice (some ⟨b1, o1, none⟩) n1 c1, .slice (some ⟨b2, o2, none⟩) n2 c2, .slice (some ⟨b3, o3, none⟩) n3 c3], .int .i64 p, .int .i64 4, .int .i64 v] w (WrPost w (x1, x2, x3, 3)) := by
  have hB0 : Below w.heap.size w ((w.alloc (.cells #[.slice (some ⟨b1, o1, none⟩) n1 c1, .slice (some ⟨b2, o2, none⟩) n2 c2, .slice (some ⟨b3, o3, none⟩) n3 c3] 38)).alloc (.cells #[.slice none 0 0, .slice none 0 0, .slice none 0 0] 38)) := ((Below.refl _ _).alloc (Nat.le_refl _) _).alloc (by simp) _
  obtain ⟨l1, l2, l3⟩ := mok1 h
  go_enter Tryz.func166, Tryz.ntmps166
  go_wp2_with fail
  refine (l1Copy_any b1 o1 b2 o2 b3 o3 n1 c1 n2 c2 n3 c3 x1 x2 x3 _ (h1.below hB0) (h2.below hB0) (h3.below hB0) hn).mono ?_
  rintro e w1 ⟨a1, d1, a2, d2, a3, d3, rfl, hO, hb1⟩
  have H := hold_start (bx := #[.slice (some ⟨b1, o1, none⟩) n1 c1, .slice (some ⟨b2, o2, none⟩) n2 c2, .slice (some ⟨b3, o3, none⟩) n3 c3]) hO hb1
  have hgo := hb1.size
  simp only [World.size_alloc] at hgo
  clear hO hb1
  obtain ⟨q1, q2, q3, q4⟩ := H.box.three
  obtain ⟨q5, q6, q7, q8⟩ := H.res.three
  obtain ⟨q9, q10, q11, q12⟩ := H.out.three
  go_wp2_with fail
  refine (sMemOk_any (some ⟨b1, o1, none⟩) (some ⟨b2, o2, none⟩) (some ⟨b3, o3, none⟩) n1 c1 n2 c2 n3 c3 _).mono ?_
  rw [h]
  rintro e w2 ⟨rfl, hbx⟩
  have H := H.step hbx
  clear hbx q1 q2 q3 q4 q5 q6 q7 q8 q9 q10 q11 q12
  obtain ⟨q1, q2, q3, q4⟩ := H.box.three
  obtain ⟨q5, q6, q7, q8⟩ := H.res.three
  obtain ⟨q9, q10, q11, q12⟩ := H.out.three
  go_wp2_with fail
  refine (l1Size_any 4 _).mono ?_
  rw [wd4]
  rintro e wx ⟨rfl, rfl⟩
  go_wp2_with fail
  refine (l1Word_any v _ hv).mono ?_
  rintro e wx ⟨rfl, rfl⟩
  go_wp2_with fail
  refine (l1Inside_any _ 4 0 n1 _ (by omega) (by omega) (by omega) (by omega) (by omega)).mono ?_
  rw [hi]
  rintro e wx ⟨rfl, rfl⟩
  go_wp2
  refine bodyPost_ret (v := .tuple #[.agg #[.slice a1 n1 d1, .slice a2 n2 d2, .slice a3 n3 d3], .int .i64 3]) (by simp [results, Tryz.results166, go_sem, q5, q6, q7]) rfl ⟨a1, n1, d1, a2, n2, d2, a3, n3, d3, rfl, H.done.1, H.done.2⟩

set_option maxHeartbeats 1000000 in
theorem sWrite_bus4 (b1 o1 b2 o2 b3 o3 n1 c1 n2 c2 n3 c3 : Nat) (x1 x2 x3 : List Int) (p : Int) (v : Int) (w : World) (h1 : BS w (some ⟨b1, o1, none⟩) n1 c1 x1) (h2 : BS w (some ⟨b2, o2, none⟩) n2 c2 x2) (h3 : BS w (some ⟨b3, o3, none⟩) n3 c3 x3) (hn : n1 + n2 + n3 ≤ 1048576) (hv : -9223372036854775808 ≤ v ∧ v ≤ 9223372036854775807) (h : mok n1 n2 n3 = true) (hm : (p.tmod 4 != 0) = false) (hp : (p == 131072) = false) (hi : ins p 4 0 n1 = false) (hj : ins p 4 65536 n2 = false) :
    Calls Tryz.prog 166 #[.agg #[.slice (some ⟨b1, o1, none⟩) n1 c1, .slice (some ⟨b2, o2, none⟩) n2 c2, .slice (some ⟨b3, o3, none⟩) n3 c3], .int .i64 p, .int .i64 4, .int .i64 v] w (WrPost w (x1, x2, x3, 2)) := by
  have hB0 : Below w.heap.size w ((w.alloc (.cells #[.slice (some ⟨b1, o1, none⟩) n1 c1, .slice (some ⟨b2, o2, none⟩) n2 c2, .slice (some ⟨b3, o3, none⟩) n3 c3] 38)).alloc (.cells #[.slice none 0 0, .slice none 0 0, .slice none 0 0] 38)) := ((Below.refl _ _).alloc (Nat.le_refl _) _).alloc (by simp) _
  obtain ⟨l1, l2, l3⟩ := mok1 h
  go_enter Tryz.func166, Tryz.ntmps166
  go_wp2_with fail
  refine (l1Copy_any b1 o1 b2 o2 b3 o3 n1 c1 n2 c2 n3 c3 x1 x2 x3 _ (h1.below hB0) (h2.below hB0) (h3.below hB0) hn).mono ?_
  rintro e w1 ⟨a1, d1, a2, d2, a3, d3, rfl, hO, hb1⟩
  have H := hold_start (bx := #[.slice (some ⟨b1, o1, none⟩) n1 c1, .slice (some ⟨b2, o2, none⟩) n2 c2, .slice (some ⟨b3, o3, none⟩) n3 c3]) hO hb1
  have hgo := hb1.size
  simp only [World.size_alloc] at hgo
  clear hO hb1
  obtain ⟨q1, q2, q3, q4⟩ := H.box.three
  obtain ⟨q5, q6, q7, q8⟩ := H.res.three
  obtain ⟨q9, q10, q11, q12⟩ := H.out.three
  go_wp2_with fail
  refine (sMemOk_any (some ⟨b1, o1, none⟩) (some ⟨b2, o2, none⟩) (some ⟨b3, o3, none⟩) n1 c1 n2 c2 n3 c3 _).mono ?_
  rw [h]
  rintro e w2 ⟨rfl, hbx⟩
  have H := H.step hbx
  clear hbx q1 q2 q3 q4 q5 q6 q7 q8 q9 q10 q11 q12
  obtain ⟨q1, q2, q3, q4⟩ := H.box.three
  obtain ⟨q5, q6, q7, q8⟩ := H.res.three
  obtain ⟨q9, q10, q11, q12⟩ := H.out.three
  go_wp2_with fail
  refine (l1Size_any 4 _).mono ?_
  rw [wd4]
  rintro e wx ⟨rfl, rfl⟩
  go_wp2_with fail
  refine (l1Word_any v _ hv).mono ?_
  rintro e wx ⟨rfl, rfl⟩
  go_wp2_with fail
  refine (l1Inside_any _ 4 0 n1 _ (by omega) (by omega) (by omega) (by omega) (by omega)).mono ?_
  rw [hi]
  rintro e wx ⟨rfl, rfl⟩
  go_wp2_with fail
  refine (l1Inside_any _ 4 65536 n2 _ (by omega) (by omega) (by omega) (by omega) (by omega)).mono ?_
  rw [hj]
  rintro e wx ⟨rfl, rfl⟩
  go_wp2
  refine bodyPost_ret (v := .tuple #[.agg #[.slice a1 n1 d1, .slice a2 n2 d2, .slice a3 n3 d3], .int .i64 2]) (by simp [results, Tryz.results166, go_sem, q5, q6, q7]) rfl ⟨a1, n1, d1, a2, n2, d2, a3, n3, d3, rfl, H.done.1, H.done.2⟩

set_option maxHeartbeats 1000000 in
theorem sWrite_mis2 (b1 o1 b2 o2 b3 o3 n1 c1 n2 c2 n3 c3 : Nat) (x1 x2 x3 : List Int) (p : Int) (v : Int) (w : World) (h1 : BS w (some ⟨b1, o1, none⟩) n1 c1 x1) (h2 : BS w (some ⟨b2, o2, none⟩) n2 c2 x2) (h3 : BS w (some ⟨b3, o3, none⟩) n3 c3 x3) (hn : n1 + n2 + n3 ≤ 1048576) (hv : -9223372036854775808 ≤ v ∧ v ≤ 9223372036854775807) (h : mok n1 n2 n3 = true) (hm : (p.tmod 2 != 0) = true) :
    Calls Tryz.prog 166 #[.agg #[.slice (some ⟨b1, o1, none⟩) n1 c1, .slice (some ⟨b2, o2, none⟩) n2 c2, .slice (some ⟨b3, o3, none⟩) n3 c3], .int .i64 p, .int .i64 2, .int .i64 v] w (WrPost w (x1, x2, x3, 1)) := by
  have hB0 : Below w.heap.size w ((w.alloc (.cells #[.slice (some ⟨b1, o1, none⟩) n1 c1, .slice (some ⟨b2, o2, none⟩) n2 c2, .slice (some ⟨b3, o3, none⟩) n3 c3] 38)).alloc (.cells #[.slice none 0 0, .slice none 0 0, .slice none 0 0] 38)) := ((Below.refl _ _).alloc (Nat.le_refl _) _).alloc (by simp) _
  go_enter Tryz.func166, Tryz.ntmps166
  go_wp2_with fail
  refine (l1Copy_any b1 o1 b2 o2 b3 o3 n1 c1 n2 c2 n3 c3 x1 x2 x3 _ (h1.below hB0) (h2.below hB0) (h3.below hB0) hn).mono ?_
  rintro e w1 ⟨a1, d1, a2, d2, a3, d3, rfl, hO, hb1⟩
  have H := hold_start (bx := #[.slice (some ⟨b1, o1, none⟩) n1 c1, .slice (some ⟨b2, o2, none⟩) n2 c2, .slice (some ⟨b3, o3, none⟩) n3 c3]) hO hb1
  have hgo := hb1.size
  simp only [World.size_alloc] at hgo
  clear hO hb1
  obtain ⟨q1, q2, q3, q4⟩ := H.box.three
  obtain ⟨q5, q6, q7, q8⟩ := H.res.three
  obtain ⟨q9, q10, q11, q12⟩ := H.out.three
  go_wp2_with fail
  refine (sMemOk_any (some ⟨b1, o1, none⟩) (some ⟨b2, o2, none⟩) (some ⟨b3, o3, none⟩) n1 c1 n2 c2 n3 c3 _).mono ?_
  rw [h]
  rintro e w2 ⟨rfl, hbx⟩
  have H := H.step hbx
  clear hbx q1 q2 q3 q4 q5 q6 q7 q8 q9 q10 q11 q12
  obtain ⟨q1, q2, q3, q4⟩ := H.box.three
  obtain ⟨q5, q6, q7, q8⟩ := H.res.three
  obtain ⟨q9, q10, q11, q12⟩ := H.out.three
  go_wp2_with fail
  refine (l1Size_any 2 _).mono ?_
  rw [wd2]
  rintro e wx ⟨rfl, rfl⟩
  go_wp2
  refine bodyPost_ret (v := .tuple #[.agg #[.slice a1 n1 d1, .slice a2 n2 d2, .slice a3 n3 d3], .int .i64 1]) (by simp [results, Tryz.results166, go_sem, q5, q6, q7]) rfl ⟨a1, n1, d1, a2, n2, d2, a3, n3, d3, rfl, H.done.1, H.done.2⟩

set_option maxHeartbeats 1000000 in
theorem sWrite_full2 (b1 o1 b2 o2 b3 o3 n1 c1 n2 c2 n3 c3 : Nat) (x1 x2 x3 : List Int)  (v : Int) (w : World) (h1 : BS w (some ⟨b1, o1, none⟩) n1 c1 x1) (h2 : BS w (some ⟨b2, o2, none⟩) n2 c2 x2) (h3 : BS w (some ⟨b3, o3, none⟩) n3 c3 x3) (hn : n1 + n2 + n3 ≤ 1048576) (hv : -9223372036854775808 ≤ v ∧ v ≤ 9223372036854775807) (h : mok n1 n2 n3 = true) (hfull : 5000 ≤ n3) :
    Calls Tryz.prog 166 #[.agg #[.slice (some ⟨b1, o1, none⟩) n1 c1, .slice (some ⟨b2, o2, none⟩) n2 c2, .slice (some ⟨b3, o3, none⟩) n3 c3], .int .i64 131072, .int .i64 2, .int .i64 v] w (WrPost w (x1, x2, x3, 4)) := by
  have hB0 : Below w.heap.size w ((w.alloc (.cells #[.slice (some ⟨b1, o1, none⟩) n1 c1, .slice (some ⟨b2, o2, none⟩) n2 c2, .slice (some ⟨b3, o3, none⟩) n3 c3] 38)).alloc (.cells #[.slice none 0 0, .slice none 0 0, .slice none 0 0] 38)) := ((Below.refl _ _).alloc (Nat.le_refl _) _).alloc (by simp) _
  have hfull' : (5000 : Int) ≤ (n3 : Int) := by omega
  go_enter Tryz.func166, Tryz.ntmps166
  go_wp2_with fail
  refine (l1Copy_any b1 o1 b2 o2 b3 o3 n1 c1 n2 c2 n3 c3 x1 x2 x3 _ (h1.below hB0) (h2.below hB0) (h3.below hB0) hn).mono ?_
  rintro e w1 ⟨a1, d1, a2, d2, a3, d3, rfl, hO, hb1⟩
  have H := hold_start (bx := #[.slice (some ⟨b1, o1, none⟩) n1 c1, .slice (some ⟨b2, o2, none⟩) n2 c2, .slice (some ⟨b3, o3, none⟩) n3 c3]) hO hb1
  have hgo := hb1.size
  simp only [World.size_alloc] at hgo
  clear hO hb1
  obtain ⟨q1, q2, q3, q4⟩ := H.box.three
  obtain ⟨q5, q6, q7, q8⟩ := H.res.three
  obtain ⟨q9, q10, q11, q12⟩ := H.out.three
  go_wp2_with fail
  refine (sMemOk_any (some ⟨b1, o1, none⟩) (some ⟨b2, o2, none⟩) (some ⟨b3, o3, none⟩) n1 c1 n2 c2 n3 c3 _).mono ?_
  rw [h]
  rintro e w2 ⟨rfl, hbx⟩
  have H := H.step hbx
  clear hbx q1 q2 q3 q4 q5 q6 q7 q8 q9 q10 q11 q12
  obtain ⟨q1, q2, q3, q4⟩ := H.box.three
  obtain ⟨q5, q6, q7, q8⟩ := H.res.three
  obtain ⟨q9, q10, q11, q12⟩ := H.out.three
  go_wp2_with fail
  refine (l1Size_any 2 _).mono ?_
  rw [wd2]
  rintro e wx ⟨rfl, rfl⟩
  go_wp2_with fail
  refine (l1Word_any v _ hv).mono ?_
  rintro e wx ⟨rfl, rfl⟩
  go_wp2
  refine bodyPost_ret (v := .tuple #[.agg #[.slice a1 n1 d1, .slice a2 n2 d2, .slice a3 n3 d3], .int .i64 4]) (by simp [results, Tryz.results166, go_sem, q5, q6, q7]) rfl ⟨a1, n1, d1, a2, n2, d2, a3, n3, d3, rfl, H.done.1, H.done.2⟩

set_option maxHeartbeats 1000000 in
theorem sWrite_flash2 (b1 o1 b2 o2 b3 o3 n1 c1 n2 c2 n3 c3 : Nat) (x1 x2 x3 : List Int) (p : Int) (v : Int) (w : World) (h1 : BS w (some ⟨b1, o1, none⟩) n1 c1 x1) (h2 : BS w (some ⟨b2, o2, none⟩) n2 c2 x2) (h3 : BS w (some ⟨b3, o3, none⟩) n3 c3 x3) (hn : n1 + n2 + n3 ≤ 1048576) (hv : -9223372036854775808 ≤ v ∧ v ≤ 9223372036854775807) (h : mok n1 n2 n3 = true) (hm : (p.tmod 2 != 0) = false) (hp : (p == 131072) = false) (hi : ins p 2 0 n1 = true) :
    Calls Tryz.prog 166 #[.agg #[.slice (some ⟨b1, o1, none⟩) n1 c1, .slice (some ⟨b2, o2, none⟩) n2 c2, .slice (some ⟨b3, o3, none⟩) n3 c3], .int .i64 p, .int .i64 2, .int .i64 v] w (WrPost w (x1, x2, x3, 3)) := by
  have hB0 : Below w.heap.size w ((w.alloc (.cells #[.slice (some ⟨b1, o1, none⟩) n1 c1, .slice (some ⟨b2, o2, none⟩) n2 c2, .slice (some ⟨b3, o3, none⟩) n3 c3] 38)).alloc (.cells #[.slice none 0 0, .slice none 0 0, .slice none 0 0] 38)) := ((Below.refl _ _).alloc (Nat.le_refl _) _).alloc (by simp) _
  obtain ⟨l1, l2, l3⟩ := mok1 h
  go_enter Tryz.func166, Tryz.ntmps166
  go_wp2_with fail
  refine (l1Copy_any b1 o1 b2 o2 b3 o3 n1 c1 n2 c2 n3 c3 x1 x2 x3 _ (h1.below hB0) (h2.below hB0) (h3.below hB0) hn).mono ?_
  rintro e w1 ⟨a1, d1, a2, d2, a3, d3, rfl, hO, hb1⟩
  have H := hold_start (bx := #[.slice (some ⟨b1, o1, none⟩) n1 c1, .slice (some ⟨b2, o2, none⟩) n2 c2, .slice (some ⟨b3, o3, none⟩) n3 c3]) hO hb1
  have hgo := hb1.size
  simp only [World.size_alloc] at hgo
  clear hO hb1
  obtain ⟨q1, q2, q3, q4⟩ := H.box.three
  obtain ⟨q5, q6, q7, q8⟩ := H.res.three
  obtain ⟨q9, q10, q11, q12⟩ := H.out.three
  go_wp2_with fail
  refine (sMemOk_any (some ⟨b1, o1, none⟩) (some ⟨b2, o2, none⟩) (some ⟨b3, o3, none⟩) n1 c1 n2 c2 n3 c3 _).mono ?_
  rw [h]
  rintro e w2 ⟨rfl, hbx⟩
  have H := H.step hbx
  clear hbx q1 q2 q3 q4 q5 q6 q7 q8 q9 q10 q11 q12
  obtain ⟨q1, q2, q3, q4⟩ := H.box.three
  obtain ⟨q5, q6, q7, q8⟩ := H.res.three
  obtain ⟨q9, q10, q11, q12⟩ := H.out.three
  go_wp2_with fail
  refine (l1Size_any 2 _).mono ?_
  rw [wd2]
  rintro e wx ⟨rfl, rfl⟩
  go_wp2_with fail
  refine (l1Word_any v _ hv).mono ?_
  rintro e wx ⟨rfl, rfl⟩
  go_wp2_with fail
  refine (l1Inside_any _ 2 0 n1 _ (by omega) (by omega) (by omega) (by omega) (by omega)).mono ?_
  rw [hi]
  rintro e wx ⟨rfl, rfl⟩
  go_wp2
  refine bodyPost_ret (v := .tuple #[.agg #[.slice a1 n1 d1, .slice a2 n2 d2, .slice a3 n3 d3], .int .i64 3]) (by simp [results, Tryz.results166, go_sem, q5, q6, q7]) rfl ⟨a1, n1, d1, a2, n2, d2, a3, n3, d3, rfl, H.done.1, H.done.2⟩

set_option maxHeartbeats 1000000 in
theorem sWrite_bus2 (b1 o1 b2 o2 b3 o3 n1 c1 n2 c2 n3 c3 : Nat) (x1 x2 x3 : List Int) (p : Int) (v : Int) (w : World) (h1 : BS w (some ⟨b1, o1, none⟩) n1 c1 x1) (h2 : BS w (some ⟨b2, o2, none⟩) n2 c2 x2) (h3 : BS w (some ⟨b3, o3, none⟩) n3 c3 x3) (hn : n1 + n2 + n3 ≤ 1048576) (hv : -9223372036854775808 ≤ v ∧ v ≤ 9223372036854775807) (h : mok n1 n2 n3 = true) (hm : (p.tmod 2 != 0) = false) (hp : (p == 131072) = false) (hi : ins p 2 0 n1 = false) (hj : ins p 2 65536 n2 = false) :
    Calls Tryz.prog 166 #[.agg #[.slice (some ⟨b1, o1, none⟩) n1 c1, .slice (some ⟨b2, o2, none⟩) n2 c2, .slice (some ⟨b3, o3, none⟩) n3 c3], .int .i64 p, .int .i64 2, .int .i64 v] w (WrPost w (x1, x2, x3, 2)) := by
  have hB0 : Below w.heap.size w ((w.alloc (.cells #[.slice (some ⟨b1, o1, none⟩) n1 c1, .slice (some ⟨b2, o2, none⟩) n2 c2, .slice (some ⟨b3, o3, none⟩) n3 c3] 38)).alloc (.cells #[.slice none 0 0, .slice none 0 0, .slice none 0 0] 38)) := ((Below.refl _ _).alloc (Nat.le_refl _) _).alloc (by simp) _
  obtain ⟨l1, l2, l3⟩ := mok1 h
  go_enter Tryz.func166, Tryz.ntmps166
  go_wp2_with fail
  refine (l1Copy_any b1 o1 b2 o2 b3 o3 n1 c1 n2 c2 n3 c3 x1 x2 x3 _ (h1.below hB0) (h2.below hB0) (h3.below hB0) hn).mono ?_
  rintro e w1 ⟨a1, d1, a2, d2, a3, d3, rfl, hO, hb1⟩
  have H := hold_start (bx := #[.slice (some ⟨b1, o1, none⟩) n1 c1, .slice (some ⟨b2, o2, none⟩) n2 c2, .slice (some ⟨b3, o3, none⟩) n3 c3]) hO hb1
  have hgo := hb1.size
  simp only [World.size_alloc] at hgo
  clear hO hb1
  obtain ⟨q1, q2, q3, q4⟩ := H.box.three
  obtain ⟨q5, q6, q7, q8⟩ := H.res.three
  obtain ⟨q9, q10, q11, q12⟩ := H.out.three
  go_wp2_with fail
  refine (sMemOk_any (some ⟨b1, o1, none⟩) (some ⟨b2, o2, none⟩) (some ⟨b3, o3, none⟩) n1 c1 n2 c2 n3 c3 _).mono ?_
  rw [h]
  rintro e w2 ⟨rfl, hbx⟩
  have H := H.step hbx
  clear hbx q1 q2 q3 q4 q5 q6 q7 q8 q9 q10 q11 q12
  obtain ⟨q1, q2, q3, q4⟩ := H.box.three
  obtain ⟨q5, q6, q7, q8⟩ := H.res.three
  obtain ⟨q9, q10, q11, q12⟩ := H.out.three
  go_wp2_with fail
  refine (l1Size_any 2 _).mono ?_
  rw [wd2]
  rintro e wx ⟨rfl, rfl⟩
  go_wp2_with fail
  refine (l1Word_any v _ hv).mono ?_
  rintro e wx ⟨rfl, rfl⟩
  go_wp2_with fail
  refine (l1Inside_any _ 2 0 n1 _ (by omega) (by omega) (by omega) (by omega) (by omega)).mono ?_
  rw [hi]
  rintro e wx ⟨rfl, rfl⟩
  go_wp2_with fail
  refine (l1Inside_any _ 2 65536 n2 _ (by omega) (by omega) (by omega) (by omega) (by omega)).mono ?_
  rw [hj]
  rintro e wx ⟨rfl, rfl⟩
  go_wp2
  refine bodyPost_ret (v := .tuple #[.agg #[.slice a1 n1 d1, .slice a2 n2 d2, .slice a3 n3 d3], .int .i64 2]) (by simp [results, Tryz.results166, go_sem, q5, q6, q7]) rfl ⟨a1, n1, d1, a2, n2, d2, a3, n3, d3, rfl, H.done.1, H.done.2⟩

set_option maxHeartbeats 1000000 in
theorem sWrite_full1 (b1 o1 b2 o2 b3 o3 n1 c1 n2 c2 n3 c3 : Nat) (x1 x2 x3 : List Int)  (v : Int) (w : World) (h1 : BS w (some ⟨b1, o1, none⟩) n1 c1 x1) (h2 : BS w (some ⟨b2, o2, none⟩) n2 c2 x2) (h3 : BS w (some ⟨b3, o3, none⟩) n3 c3 x3) (hn : n1 + n2 + n3 ≤ 1048576) (hv : -9223372036854775808 ≤ v ∧ v ≤ 9223372036854775807) (h : mok n1 n2 n3 = true) (hfull : 5000 ≤ n3) :
    Calls Tryz.prog 166 #[.agg #[.slice (some ⟨b1, o1, none⟩) n1 c1, .slice (some ⟨b2, o2, none⟩) n2 c2, .slice (some ⟨b3, o3, none⟩) n3 c3], .int .i64 131072, .int .i64 1, .int .i64 v] w (WrPost w (x1, x2, x3, 4)) := by
  have hB0 : Below w.heap.size w ((w.alloc (.cells #[.slice (some ⟨b1, o1, none⟩) n1 c1, .slice (some ⟨b2, o2, none⟩) n2 c2, .slice (some ⟨b3, o3, none⟩) n3 c3] 38)).alloc (.cells #[.slice none 0 0, .slice none 0 0, .slice none 0 0] 38)) := ((Below.refl _ _).alloc (Nat.le_refl _) _).alloc (by simp) _
  have hfull' : (5000 : Int) ≤ (n3 : Int) := by omega
  go_enter Tryz.func166, Tryz.ntmps166
  go_wp2_with fail
  refine (l1Copy_any b1 o1 b2 o2 b3 o3 n1 c1 n2 c2 n3 c3 x1 x2 x3 _ (h1.below hB0) (h2.below hB0) (h3.below hB0) hn).mono ?_
  rintro e w1 ⟨a1, d1, a2, d2, a3, d3, rfl, hO, hb1⟩
  have H := hold_start (bx := #[.slice (some ⟨b1, o1, none⟩) n1 c1, .slice (some ⟨b2, o2, none⟩) n2 c2, .slice (some ⟨b3, o3, none⟩) n3 c3]) hO hb1
  have hgo := hb1.size
  simp only [World.size_alloc] at hgo
  clear hO hb1
  obtain ⟨q1, q2, q3, q4⟩ := H.box.three
  obtain ⟨q5, q6, q7, q8⟩ := H.res.three
  obtain ⟨q9, q10, q11, q12⟩ := H.out.three
  go_wp2_with fail
  refine (sMemOk_any (some ⟨b1, o1, none⟩) (some ⟨b2, o2, none⟩) (some ⟨b3, o3, none⟩) n1 c1 n2 c2 n3 c3 _).mono ?_
  rw [h]
  rintro e w2 ⟨rfl, hbx⟩
  have H := H.step hbx
  clear hbx q1 q2 q3 q4 q5 q6 q7 q8 q9 q10 q11 q12
  obtain ⟨q1, q2, q3, q4⟩ := H.box.three
  obtain ⟨q5, q6, q7, q8⟩ := H.res.three
  obtain ⟨q9, q10, q11, q12⟩ := H.out.three
  go_wp2_with fail
  refine (l1Size_any 1 _).mono ?_
  rw [wd1]
  rintro e wx ⟨rfl, rfl⟩
  go_wp2_with fail
  refine (l1Word_any v _ hv).mono ?_
  rintro e wx ⟨rfl, rfl⟩
  go_wp2
  refine bodyPost_ret (v := .tuple #[.agg #[.slice a1 n1 d1, .slice a2 n2 d2, .slice a3 n3 d3], .int .i64 4]) (by simp [results, Tryz.results166, go_sem, q5, q6, q7]) rfl ⟨a1, n1, d1, a2, n2, d2, a3, n3, d3, rfl, H.done.1, H.done.2⟩

set_option maxHeartbeats 1000000 in
theorem sWrite_flash1 (b1 o1 b2 o2 b3 o3 n1 c1 n2 c2 n3 c3 : Nat) (x1 x2 x3 : List Int) (p : Int) (v : Int) (w : World) (h1 : BS w (some ⟨b1, o1, none⟩) n1 c1 x1) (h2 : BS w (some ⟨b2, o2, none⟩) n2 c2 x2) (h3 : BS w (some ⟨b3, o3, none⟩) n3 c3 x3) (hn : n1 + n2 + n3 ≤ 1048576) (hv : -9223372036854775808 ≤ v ∧ v ≤ 9223372036854775807) (h : mok n1 n2 n3 = true) (hm : (p.tmod 1 != 0) = false) (hp : (p == 131072) = false) (hi : ins p 1 0 n1 = true) :
    Calls Tryz.prog 166 #[.agg #[.slice (some ⟨b1, o1, none⟩) n1 c1, .slice (some ⟨b2, o2, none⟩) n2 c2, .slice (some ⟨b3, o3, none⟩) n3 c3], .int .i64 p, .int .i64 1, .int .i64 v] w (WrPost w (x1, x2, x3, 3)) := by
  have hB0 : Below w.heap.size w ((w.alloc (.cells #[.slice (some ⟨b1, o1, none⟩) n1 c1, .slice (some ⟨b2, o2, none⟩) n2 c2, .slice (some ⟨b3, o3, none⟩) n3 c3] 38)).alloc (.cells #[.slice none 0 0, .slice none 0 0, .slice none 0 0] 38)) := ((Below.refl _ _).alloc (Nat.le_refl _) _).alloc (by simp) _
  obtain ⟨l1, l2, l3⟩ := mok1 h
  go_enter Tryz.func166, Tryz.ntmps166
  go_wp2_with fail
  refine (l1Copy_any b1 o1 b2 o2 b3 o3 n1 c1 n2 c2 n3 c3 x1 x2 x3 _ (h1.below hB0) (h2.below hB0) (h3.below hB0) hn).mono ?_
  rintro e w1 ⟨a1, d1, a2, d2, a3, d3, rfl, hO, hb1⟩
  have H := hold_start (bx := #[.slice (some ⟨b1, o1, none⟩) n1 c1, .slice (some ⟨b2, o2, none⟩) n2 c2, .slice (some ⟨b3, o3, none⟩) n3 c3]) hO hb1
  have hgo := hb1.size
  simp only [World.size_alloc] at hgo
  clear hO hb1
  obtain ⟨q1, q2, q3, q4⟩ := H.box.three
  obtain ⟨q5, q6, q7, q8⟩ := H.res.three
  obtain ⟨q9, q10, q11, q12⟩ := H.out.three
  go_wp2_with fail
  refine (sMemOk_any (some ⟨b1, o1, none⟩) (some ⟨b2, o2, none⟩) (some ⟨b3, o3, none⟩) n1 c1 n2 c2 n3 c3 _).mono ?_
  rw [h]
  rintro e w2 ⟨rfl, hbx⟩
  have H := H.step hbx
  clear hbx q1 q2 q3 q4 q5 q6 q7 q8 q9 q10 q11 q12
  obtain ⟨q1, q2, q3, q4⟩ := H.box.three
  obtain ⟨q5, q6, q7, q8⟩ := H.res.three
  obtain ⟨q9, q10, q11, q12⟩ := H.out.three
  go_wp2_with fail
  refine (l1Size_any 1 _).mono ?_
  rw [wd1]
  rintro e wx ⟨rfl, rfl⟩
  go_wp2_with fail
  refine (l1Word_any v _ hv).mono ?_
  rintro e wx ⟨rfl, rfl⟩
  go_wp2_with fail
  refine (l1Inside_any _ 1 0 n1 _ (by omega) (by omega) (by omega) (by omega) (by omega)).mono ?_
  rw [hi]
  rintro e wx ⟨rfl, rfl⟩
  go_wp2
  refine bodyPost_ret (v := .tuple #[.agg #[.slice a1 n1 d1, .slice a2 n2 d2, .slice a3 n3 d3], .int .i64 3]) (by simp [results, Tryz.results166, go_sem, q5, q6, q7]) rfl ⟨a1, n1, d1, a2, n2, d2, a3, n3, d3, rfl, H.done.1, H.done.2⟩

set_option maxHeartbeats 1000000 in
theorem sWrite_bus1 (b1 o1 b2 o2 b3 o3 n1 c1 n2 c2 n3 c3 : Nat) (x1 x2 x3 : List Int) (p : Int) (v : Int) (w : World) (h1 : BS w (some ⟨b1, o1, none⟩) n1 c1 x1) (h2 : BS w (some ⟨b2, o2, none⟩) n2 c2 x2) (h3 : BS w (some ⟨b3, o3, none⟩) n3 c3 x3) (hn : n1 + n2 + n3 ≤ 1048576) (hv : -9223372036854775808 ≤ v ∧ v ≤ 9223372036854775807) (h : mok n1 n2 n3 = true) (hm : (p.tmod 1 != 0) = false) (hp : (p == 131072) = false) (hi : ins p 1 0 n1 = false) (hj : ins p 1 65536 n2 = false) :
    Calls Tryz.prog 166 #[.agg #[.slice (some ⟨b1, o1, none⟩) n1 c1, .slice (some ⟨b2, o2, none⟩) n2 c2, .slice (some ⟨b3, o3, none⟩) n3 c3], .int .i64 p, .int .i64 1, .int .i64 v] w (WrPost w (x1, x2, x3, 2)) := by
  have hB0 : Below w.heap.size w ((w.alloc (.cells #[.slice (some ⟨b1, o1, none⟩) n1 c1, .slice (some ⟨b2, o2, none⟩) n2 c2, .slice (some ⟨b3, o3, none⟩) n3 c3] 38)).alloc (.cells #[.slice none 0 0, .slice none 0 0, .slice none 0 0] 38)) := ((Below.refl _ _).alloc (Nat.le_refl _) _).alloc (by simp) _
  obtain ⟨l1, l2, l3⟩ := mok1 h
  go_enter Tryz.func166, Tryz.ntmps166
  go_wp2_with fail
  refine (l1Copy_any b1 o1 b2 o2 b3 o3 n1 c1 n2 c2 n3 c3 x1 x2 x3 _ (h1.below hB0) (h2.below hB0) (h3.below hB0) hn).mono ?_
  rintro e w1 ⟨a1, d1, a2, d2, a3, d3, rfl, hO, hb1⟩
  have H := hold_start (bx := #[.slice (some ⟨b1, o1, none⟩) n1 c1, .slice (some ⟨b2, o2, none⟩) n2 c2, .slice (some ⟨b3, o3, none⟩) n3 c3]) hO hb1
  have hgo := hb1.size
  simp only [World.size_alloc] at hgo
  clear hO hb1
  obtain ⟨q1, q2, q3, q4⟩ := H.box.three
  obtain ⟨q5, q6, q7, q8⟩ := H.res.three
  obtain ⟨q9, q10, q11, q12⟩ := H.out.three
  go_wp2_with fail
  refine (sMemOk_any (some ⟨b1, o1, none⟩) (some ⟨b2, o2, none⟩) (some ⟨b3, o3, none⟩) n1 c1 n2 c2 n3 c3 _).mono ?_
  rw [h]
  rintro e w2 ⟨rfl, hbx⟩
  have H := H.step hbx
  clear hbx q1 q2 q3 q4 q5 q6 q7 q8 q9 q10 q11 q12
  obtain ⟨q1, q2, q3, q4⟩ := H.box.three
  obtain ⟨q5, q6, q7, q8⟩ := H.res.three
  obtain ⟨q9, q10, q11, q12⟩ := H.out.three
  go_wp2_with fail
  refine (l1Size_any 1 _).mono ?_
  rw [wd1]
  rintro e wx ⟨rfl, rfl⟩
  go_wp2_with fail
  refine (l1Word_any v _ hv).mono ?_
  rintro e wx ⟨rfl, rfl⟩
  go_wp2_with fail
  refine (l1Inside_any _ 1 0 n1 _ (by omega) (by omega) (by omega) (by omega) (by omega)).mono ?_
  rw [hi]
  rintro e wx ⟨rfl, rfl⟩
  go_wp2_with fail
  refine (l1Inside_any _ 1 65536 n2 _ (by omega) (by omega) (by omega) (by omega) (by omega)).mono ?_
  rw [hj]
  rintro e wx ⟨rfl, rfl⟩
  go_wp2
  refine bodyPost_ret (v := .tuple #[.agg #[.slice a1 n1 d1, .slice a2 n2 d2, .slice a3 n3 d3], .int .i64 2]) (by simp [results, Tryz.results166, go_sem, q5, q6, q7]) rfl ⟨a1, n1, d1, a2, n2, d2, a3, n3, d3, rfl, H.done.1, H.done.2⟩

end Go.Proofs.YtngdgogjlpjjpadGreat
