import Derived.Test.YtngdgogjlpjjpacWi1
namespace Go.Proofs.Ytngdgogjlpjjpac
open Go.RowKit
set_option linter.unusedVariables false

set_option maxRecDepth 100000 in
set_option maxHeartbeats 1000000 in
theorem writeInto_port (a1 a2 a3 : Option Addr) (n1 c1 n2 c2 n3 c3 g o base : Nat) (cs : Array Value) (t : TypeId) (x1 x2 x3 : List Int) (s v : Int) (w : World) (hk : Blk w g cs t) (ht : t ≠ 5) (h1 : cs[o]? = some (.slice a1 n1 c1)) (h2 : cs[o + 1]? = some (.slice a2 n2 c2)) (h3 : cs[o + 2]? = some (.slice a3 n3 c3)) (h : Own3 w base (.slice a1 n1 c1) (.slice a2 n2 c2) (.slice a3 n3 c3) x1 x2 x3)
    (far : ∀ v, v = Value.slice a1 n1 c1 ∨ v = Value.slice a2 n2 c2 ∨ v = Value.slice a3 n3 c3 → v.ownBlock ≠ some g) (hb : base ≤ w.heap.size) (hv : -9223372036854775808 ≤ v ∧ v ≤ 9223372036854775807) (hfree : n3 < 5000) (hf : wff n1 n2 n3 131072 s = 0) :
    Calls Try.prog 48 #[.pointer (some ⟨g, o, none⟩), .int .i64 131072, .int .i64 s, .int .i64 v] w (WiPost w g o cs t base (.slice a1 n1 c1) (.slice a2 n2 c2) (.slice a3 n3 c3) (x1, x2, x3 ++ [v % 256], 0)) := by
  obtain ⟨i0, hi, hz0, hz1, hz2⟩ := info_parts info8
  have HF := hide (fun w => writeFault_any a1 a2 a3 n1 c1 n2 c2 n3 c3 131072 s w (by omega))
  rw [hf] at HF
  have hx3 : x3.length = n3 := h.2.2.1.bs.1
  have q1 := (hk.cell o).trans h1
  have q2 := (hk.cell (o + 1)).trans h2
  have q3 := (hk.cell (o + 2)).trans h3
  go_enter Try.func48, Try.ntmps48
  go_wp2_with fail
  refine (HF.out _).mono ?_
  rintro e w1 ⟨rfl, hb1⟩
  have k1 := hk.below hb1
  have O1 := own3_below h hb1
  have t1 : Turn (fun j => j = g ∨ (Value.slice a2 n2 c2).ownBlock = some j ∨ (Value.slice a3 n3 c3).ownBlock = some j) w w1 := turn_below hb1
  have hbs1 := hb1.size
  clear q1 q2 q3 hb1
  have q1 := (k1.cell o).trans h1
  have q2 := (k1.cell (o + 1)).trans h2
  have q3 := (k1.cell (o + 2)).trans h3
  obtain ⟨bs, hbs, hbs', f1, f2, hown⟩ := own_base O1 (by omega)
  rw [hx3] at hown
  have HOWN := hide (hown.alloc (.cells #[.int .u8 (v % 256)] 5))
  have HF1 := hide f1
  have HF2 := hide f2
  have HS := hide hx3
  have K1 := hide k1
  have HO1 := hide O1
  have HT1 := hide t1
  have HFAR := hide far
  have H1 := hide h1
  have H2 := hide h2
  have H3 := hide h3
  clear hown f1 f2 hx3 k1 O1 t1 far h1 h2 h3 h hk hf
  go_wp2_with (at_builtin; refine wpList_append_own _ rfl _ _ 22 rfl bs 5 i0 (.int .u8 0) 1 1 Try.underlying22 hi hz0 hz1 hz2 rfl (by decide) _ n3 (x3.map (Value.int .u8)) rfl HOWN.out ⟨w1.heap.size, 0, none⟩ 1 1 [.int .u8 (v % 256)] rfl rfl (cell_one_new _ _ _) (by intro u hu; simp at hu; subst hu; rfl) (by unfold maxLen; omega) (by omega) (by simp; omega) ?_; intro v' w3 hown3 hgr3 _; obtain ⟨a', d', he⟩ := own_shape hown3; subst he; have HX := hide (own_out (o := o) K1.out ht HO1.out HFAR.out (z := v % 256) (by omega) bs hbs HF1.out HF2.out (by rw [HS.out]; exact hown3) hgr3); have kk := grown_blk hgr3 (K1.out.alloc (.cells #[.int .u8 (v % 256)] 5)) (fun e => HFAR.out _ (Or.inr (Or.inr rfl)) e.symm); have q1 := (kk.cell o).trans H1.out; have q2 := (kk.cell (o + 1)).trans H2.out; have q3 := (kk.cell (o + 2)).trans H3.out; have q4 := kk.frozen (o + 2); clear kk hown3 hgr3)
  go_ret
  obtain ⟨y1, y2, y3, y4⟩ := HX.out
  exact ⟨a', n3 + 1, d', rfl, y1, y2, y3, HT1.out.trans y4⟩

set_option maxHeartbeats 1000000 in
theorem writeInto_ram4 (a1 a2 a3 : Option Addr) (n1 c1 n2 c2 n3 c3 g o base k : Nat) (cs : Array Value) (t : TypeId) (x1 x2 x3 : List Int) (p v : Int) (w : World) (hk : Blk w g cs t) (h1 : cs[o]? = some (.slice a1 n1 c1)) (h2 : cs[o + 1]? = some (.slice a2 n2 c2)) (h3 : cs[o + 2]? = some (.slice a3 n3 c3)) (h : Own3 w base (.slice a1 n1 c1) (.slice a2 n2 c2) (.slice a3 n3 c3) x1 x2 x3)
    (far : ∀ v, v = Value.slice a1 n1 c1 ∨ v = Value.slice a2 n2 c2 ∨ v = Value.slice a3 n3 c3 → v.ownBlock ≠ some g) (hb : base ≤ w.heap.size) (hv : -9223372036854775808 ≤ v ∧ v ≤ 9223372036854775807) (hpk : p - 65536 = (k : Int)) (hkn : k + 4 ≤ n2) (hn2 : n2 ≤ 16384) (hf : wff n1 n2 n3 p 4 = 0) :
    Calls Try.prog 48 #[.pointer (some ⟨g, o, none⟩), .int .i64 p, .int .i64 4, .int .i64 v] w (WiPost w g o cs t base (.slice a1 n1 c1) (.slice a2 n2 c2) (.slice a3 n3 c3) (x1, put x2 k v 4, x3, 0)) := by
  have HF := hide (fun w => writeFault_any a1 a2 a3 n1 c1 n2 c2 n3 c3 p 4 w (by omega))
  rw [hf] at HF
  have hp : (p == 131072) = false := by simp; omega
  have hp0 : 65536 ≤ p := by omega
  have hp1 : p ≤ 131072 := by omega
  obtain ⟨g2, rfl⟩ := ob_addr' h.2.1 (by omega)
  have q1 := (hk.cell o).trans h1
  have q2 := (hk.cell (o + 1)).trans h2
  have q3 := (hk.cell (o + 2)).trans h3
  clear hf
  go_enter Try.func48, Try.ntmps48
  go_wp2_with fail
  refine (HF.out _).mono ?_
  rintro e w1 ⟨rfl, hb1⟩
  have k1 := hk.below hb1
  have O1 := own3_below h hb1
  have t1 : Turn (fun j => j = g ∨ (Value.slice (some ⟨g2, 0, none⟩) n2 c2).ownBlock = some j ∨ (Value.slice a3 n3 c3).ownBlock = some j) w w1 := turn_below hb1
  have hcap := (O1.2.1.bs).2.2.2.2
  clear q1 q2 q3 hb1
  have q1 := (k1.cell o).trans h1
  have q2 := (k1.cell (o + 1)).trans h2
  have q3 := (k1.cell (o + 2)).trans h3
  have K1 := hide k1
  have HO1 := hide O1
  have HT1 := hide t1
  have HFAR := hide far
  have H3 := hide h3
  clear k1 O1 t1 far h1 h2 h3 h hk
  go_wp2_with fail
  refine (putBytes_4 g2 (n2 - k) (c2 - k) k v _ (ob_room2 HO1.out.2.1 (by omega)) (by omega) hv).mono ?_
  rintro e w3 ⟨rfl, rfl⟩
  obtain ⟨y1, y2⟩ := own_ram (gg := g) HO1.out (only_putD4 g2 k v _) (ob_putD4 HO1.out.2.1 k v (by omega))
  have kk := only_blk (only_putD4 g2 k v _) K1.out (fun e => HFAR.out _ (Or.inr (Or.inl rfl)) (by rw [e]; rfl))
  have HY := hide (And.intro y1 y2)
  have KK := hide kk
  generalize putD4 w1 g2 k v = w3 at *
  clear y1 y2 kk q1 q2 q3
  go_wp2
  go_ret
  exact ⟨a3, n3, c3, rfl, by rw [set_same H3.out]; exact KK.out, HY.out.1, HFAR.out _ (Or.inr (Or.inr rfl)), HT1.out.trans HY.out.2⟩

set_option maxHeartbeats 1000000 in
theorem writeInto_ram2 (a1 a2 a3 : Option Addr) (n1 c1 n2 c2 n3 c3 g o base k : Nat) (cs : Array Value) (t : TypeId) (x1 x2 x3 : List Int) (p v : Int) (w : World) (hk : Blk w g cs t) (h1 : cs[o]? = some (.slice a1 n1 c1)) (h2 : cs[o + 1]? = some (.slice a2 n2 c2)) (h3 : cs[o + 2]? = some (.slice a3 n3 c3)) (h : Own3 w base (.slice a1 n1 c1) (.slice a2 n2 c2) (.slice a3 n3 c3) x1 x2 x3)
    (far : ∀ v, v = Value.slice a1 n1 c1 ∨ v = Value.slice a2 n2 c2 ∨ v = Value.slice a3 n3 c3 → v.ownBlock ≠ some g) (hb : base ≤ w.heap.size) (hv : -9223372036854775808 ≤ v ∧ v ≤ 9223372036854775807) (hpk : p - 65536 = (k : Int)) (hkn : k + 2 ≤ n2) (hn2 : n2 ≤ 16384) (hf : wff n1 n2 n3 p 2 = 0) :
    Calls Try.prog 48 #[.pointer (some ⟨g, o, none⟩), .int .i64 p, .int .i64 2, .int .i64 v] w (WiPost w g o cs t base (.slice a1 n1 c1) (.slice a2 n2 c2) (.slice a3 n3 c3) (x1, put x2 k v 2, x3, 0)) := by
  have HF := hide (fun w => writeFault_any a1 a2 a3 n1 c1 n2 c2 n3 c3 p 2 w (by omega))
  rw [hf] at HF
  have hp : (p == 131072) = false := by simp; omega
  have hp0 : 65536 ≤ p := by omega
  have hp1 : p ≤ 131072 := by omega
  obtain ⟨g2, rfl⟩ := ob_addr' h.2.1 (by omega)
  have q1 := (hk.cell o).trans h1
  have q2 := (hk.cell (o + 1)).trans h2
  have q3 := (hk.cell (o + 2)).trans h3
  clear hf
  go_enter Try.func48, Try.ntmps48
  go_wp2_with fail
  refine (HF.out _).mono ?_
  rintro e w1 ⟨rfl, hb1⟩
  have k1 := hk.below hb1
  have O1 := own3_below h hb1
  have t1 : Turn (fun j => j = g ∨ (Value.slice (some ⟨g2, 0, none⟩) n2 c2).ownBlock = some j ∨ (Value.slice a3 n3 c3).ownBlock = some j) w w1 := turn_below hb1
  have hcap := (O1.2.1.bs).2.2.2.2
  clear q1 q2 q3 hb1
  have q1 := (k1.cell o).trans h1
  have q2 := (k1.cell (o + 1)).trans h2
  have q3 := (k1.cell (o + 2)).trans h3
  have K1 := hide k1
  have HO1 := hide O1
  have HT1 := hide t1
  have HFAR := hide far
  have H3 := hide h3
  clear k1 O1 t1 far h1 h2 h3 h hk
  go_wp2_with fail
  refine (putBytes_2 g2 (n2 - k) (c2 - k) k v _ (ob_room2 HO1.out.2.1 (by omega)) (by omega) hv).mono ?_
  rintro e w3 ⟨rfl, rfl⟩
  obtain ⟨y1, y2⟩ := own_ram (gg := g) HO1.out (only_putD2 g2 k v _) (ob_putD2 HO1.out.2.1 k v (by omega))
  have kk := only_blk (only_putD2 g2 k v _) K1.out (fun e => HFAR.out _ (Or.inr (Or.inl rfl)) (by rw [e]; rfl))
  have HY := hide (And.intro y1 y2)
  have KK := hide kk
  generalize putD2 w1 g2 k v = w3 at *
  clear y1 y2 kk q1 q2 q3
  go_wp2
  go_ret
  exact ⟨a3, n3, c3, rfl, by rw [set_same H3.out]; exact KK.out, HY.out.1, HFAR.out _ (Or.inr (Or.inr rfl)), HT1.out.trans HY.out.2⟩

set_option maxHeartbeats 1000000 in
theorem writeInto_ram1 (a1 a2 a3 : Option Addr) (n1 c1 n2 c2 n3 c3 g o base k : Nat) (cs : Array Value) (t : TypeId) (x1 x2 x3 : List Int) (p v : Int) (w : World) (hk : Blk w g cs t) (h1 : cs[o]? = some (.slice a1 n1 c1)) (h2 : cs[o + 1]? = some (.slice a2 n2 c2)) (h3 : cs[o + 2]? = some (.slice a3 n3 c3)) (h : Own3 w base (.slice a1 n1 c1) (.slice a2 n2 c2) (.slice a3 n3 c3) x1 x2 x3)
    (far : ∀ v, v = Value.slice a1 n1 c1 ∨ v = Value.slice a2 n2 c2 ∨ v = Value.slice a3 n3 c3 → v.ownBlock ≠ some g) (hb : base ≤ w.heap.size) (hv : -9223372036854775808 ≤ v ∧ v ≤ 9223372036854775807) (hpk : p - 65536 = (k : Int)) (hkn : k + 1 ≤ n2) (hn2 : n2 ≤ 16384) (hf : wff n1 n2 n3 p 1 = 0) :
    Calls Try.prog 48 #[.pointer (some ⟨g, o, none⟩), .int .i64 p, .int .i64 1, .int .i64 v] w (WiPost w g o cs t base (.slice a1 n1 c1) (.slice a2 n2 c2) (.slice a3 n3 c3) (x1, put x2 k v 1, x3, 0)) := by
  have HF := hide (fun w => writeFault_any a1 a2 a3 n1 c1 n2 c2 n3 c3 p 1 w (by omega))
  rw [hf] at HF
  have hp : (p == 131072) = false := by simp; omega
  have hp0 : 65536 ≤ p := by omega
  have hp1 : p ≤ 131072 := by omega
  obtain ⟨g2, rfl⟩ := ob_addr' h.2.1 (by omega)
  have q1 := (hk.cell o).trans h1
  have q2 := (hk.cell (o + 1)).trans h2
  have q3 := (hk.cell (o + 2)).trans h3
  clear hf
  go_enter Try.func48, Try.ntmps48
  go_wp2_with fail
  refine (HF.out _).mono ?_
  rintro e w1 ⟨rfl, hb1⟩
  have k1 := hk.below hb1
  have O1 := own3_below h hb1
  have t1 : Turn (fun j => j = g ∨ (Value.slice (some ⟨g2, 0, none⟩) n2 c2).ownBlock = some j ∨ (Value.slice a3 n3 c3).ownBlock = some j) w w1 := turn_below hb1
  have hcap := (O1.2.1.bs).2.2.2.2
  clear q1 q2 q3 hb1
  have q1 := (k1.cell o).trans h1
  have q2 := (k1.cell (o + 1)).trans h2
  have q3 := (k1.cell (o + 2)).trans h3
  have K1 := hide k1
  have HO1 := hide O1
  have HT1 := hide t1
  have HFAR := hide far
  have H3 := hide h3
  clear k1 O1 t1 far h1 h2 h3 h hk
  go_wp2_with fail
  refine (putBytes_1 g2 (n2 - k) (c2 - k) k v _ (ob_room2 HO1.out.2.1 (by omega)) (by omega) hv).mono ?_
  rintro e w3 ⟨rfl, rfl⟩
  obtain ⟨y1, y2⟩ := own_ram (gg := g) HO1.out (only_putD1 g2 k v _) (ob_putD1 HO1.out.2.1 k v (by omega))
  have kk := only_blk (only_putD1 g2 k v _) K1.out (fun e => HFAR.out _ (Or.inr (Or.inl rfl)) (by rw [e]; rfl))
  have HY := hide (And.intro y1 y2)
  have KK := hide kk
  generalize putD1 w1 g2 k v = w3 at *
  clear y1 y2 kk q1 q2 q3
  go_wp2
  go_ret
  exact ⟨a3, n3, c3, rfl, by rw [set_same H3.out]; exact KK.out, HY.out.1, HFAR.out _ (Or.inr (Or.inr rfl)), HT1.out.trans HY.out.2⟩

theorem writeInto_any (a1 a2 a3 : Option Addr) (n1 c1 n2 c2 n3 c3 g o base : Nat) (cs : Array Value) (t : TypeId) (x1 x2 x3 : List Int) (p s v : Int) (w : World) (hk : Blk w g cs t) (ht : t ≠ 5) (h1 : cs[o]? = some (.slice a1 n1 c1)) (h2 : cs[o + 1]? = some (.slice a2 n2 c2)) (h3 : cs[o + 2]? = some (.slice a3 n3 c3)) (h : Own3 w base (.slice a1 n1 c1) (.slice a2 n2 c2) (.slice a3 n3 c3) x1 x2 x3)
    (far : ∀ v, v = Value.slice a1 n1 c1 ∨ v = Value.slice a2 n2 c2 ∨ v = Value.slice a3 n3 c3 → v.ownBlock ≠ some g) (hb : base ≤ w.heap.size) (hv : -9223372036854775808 ≤ v ∧ v ≤ 9223372036854775807) (hmax : p ≤ 9223372036854775807) :
    Calls Try.prog 48 #[.pointer (some ⟨g, o, none⟩), .int .i64 p, .int .i64 s, .int .i64 v] w (WiPost w g o cs t base (.slice a1 n1 c1) (.slice a2 n2 c2) (.slice a3 n3 c3) (wrm n1 n2 n3 x1 x2 x3 p s v)) := by
  by_cases hf : wff n1 n2 n3 p s = 0
  · obtain ⟨hm, hs, ha, ⟨rfl, hn⟩ | ⟨hp, hi, hj⟩⟩ := wff_zero hf
    · rw [show wrm n1 n2 n3 x1 x2 x3 131072 s v = (x1, x2, x3 ++ [v % 256], 0) from by rw [wrm, if_pos ⟨hm, hs⟩, if_neg (by rw [ha]; simp), if_pos rfl, if_neg (by omega)]]
      exact writeInto_port a1 a2 a3 n1 c1 n2 c2 n3 c3 g o base cs t x1 x2 x3 s v w hk ht h1 h2 h3 h far hb hv hn hf
    · have hj' := hj
      simp [ins] at hj'
      obtain ⟨l1, l2, l3⟩ := mok1 hm
      obtain ⟨k, hk'⟩ := Int.eq_ofNat_of_zero_le (show 0 ≤ p - 65536 by omega)
      have e : wrm n1 n2 n3 x1 x2 x3 p s v = (x1, put x2 k v s.toNat, x3, 0) := by
        rw [wrm, if_pos ⟨hm, hs⟩, if_neg (by rw [ha]; simp), if_neg hp, if_neg (by rw [hi]; simp), if_pos hj, hk']
        rfl
      rw [e]
      rcases wd_cases hs with rfl | rfl | rfl
      · exact writeInto_ram4 a1 a2 a3 n1 c1 n2 c2 n3 c3 g o base k cs t x1 x2 x3 p v w hk h1 h2 h3 h far hb hv hk' (by omega) l2 hf
      · exact writeInto_ram2 a1 a2 a3 n1 c1 n2 c2 n3 c3 g o base k cs t x1 x2 x3 p v w hk h1 h2 h3 h far hb hv hk' (by omega) l2 hf
      · exact writeInto_ram1 a1 a2 a3 n1 c1 n2 c2 n3 c3 g o base k cs t x1 x2 x3 p v w hk h1 h2 h3 h far hb hv hk' (by omega) l2 hf
  · rw [wrm_fault n1 n2 n3 x1 x2 x3 p s v hf]
    refine (writeInto_fault a1 a2 a3 n1 c1 n2 c2 n3 c3 g o p s v w ((hk.cell o).trans h1) ((hk.cell (o + 1)).trans h2) ((hk.cell (o + 2)).trans h3) hmax hf).mono fun e w' he => ?_
    exact ⟨a3, n3, c3, he.1, by rw [set_same h3]; exact hk.below he.2, own3_below h he.2, far _ (Or.inr (Or.inr rfl)), turn_below he.2⟩
end Go.Proofs.Ytngdgogjlpjjpac
