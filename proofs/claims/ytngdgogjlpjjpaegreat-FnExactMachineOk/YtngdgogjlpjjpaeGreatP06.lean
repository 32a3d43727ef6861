import Derived.Maps.OwnSet
import Derived.Test.YtngdgogjlpjjpaeGreatP03
import Derived.Test.YtngdgogjlpjjpaeGreatP04
import Derived.Test.YtngdgogjlpjjpaeGreatP05
namespace Go.Proofs.YtngdgogjlpjjpaeGreat
open Go.RowKit
set_option linter.unusedVariables false
set_option linter.unusedSimpArgs false
set_option maxRecDepth 100000
structure MT (w : World) (nm : ByteArray) (ta : Option Addr) (tn tc : Nat) (tz : List Int) (ba : Option Addr) (bn bc : Nat) (bl : List Bk) (da : Option Addr) (dn dc : Nat) (dz : List Int) (bss : Int) (ra : Option Addr) (rn rc : Nat) (rz : List Int) (ia : Option Addr) (im ic : Nat) (ss : List ByteArray) (ea : Option Addr) (en ec : Nat) (es : List Ex) : Prop where
  n : nm.size ≤ maxLen
  t : IS w ta tn tc tz
  b : BKS w ba bn bc bl
  d : BS w da dn dc dz
  s : wfi bss
  r : IS w ra rn rc rz
  i : TS w ia im ic ss
  e : TE w ea en ec es
theorem MT.below {w w' : World} {nm : ByteArray} {ta : Option Addr} {tn tc : Nat} {tz : List Int} {ba : Option Addr} {bn bc : Nat} {bl : List Bk} {da : Option Addr} {dn dc : Nat} {dz : List Int} {bss : Int} {ra : Option Addr} {rn rc : Nat} {rz : List Int} {ia : Option Addr} {im ic : Nat} {ss : List ByteArray} {ea : Option Addr} {en ec : Nat} {es : List Ex} (h : MT w nm ta tn tc tz ba bn bc bl da dn dc dz bss ra rn rc rz ia im ic ss ea en ec es) (hb : Below w.heap.size w w') : MT w' nm ta tn tc tz ba bn bc bl da dn dc dz bss ra rn rc rz ia im ic ss ea en ec es :=
  ⟨h.n, h.t.below hb, h.b.below hb, h.d.below hb, h.s, h.r.below hb, h.i.below hb, h.e.below hb⟩
def mdSize (nm : ByteArray) (tn bn : Nat) (bl : List Bk) (dn rn im : Nat) (ss : List ByteArray) (en : Nat) (es : List Ex) : Nat :=
  nm.size + tn + (bn + upS (fun j => (bl.getD j zB).2.1) bn) + dn + rn + (im + upS (fun j => (ss.getD j zS).size) im) + (en + upS (fun j => (es.getD j zE).1.size) en)
set_option maxHeartbeats 4000000 in
theorem szModule_any (nm : ByteArray) (ta : Option Addr) (tn tc : Nat) (tz : List Int) (ba : Option Addr) (bn bc : Nat) (bl : List Bk) (da : Option Addr) (dn dc : Nat) (dz : List Int) (bss : Int) (ra : Option Addr) (rn rc : Nat) (rz : List Int) (ia : Option Addr) (im ic : Nat) (ss : List ByteArray) (ea : Option Addr) (en ec : Nat) (es : List Ex) (l : Int) (w : World) (h : MT w nm ta tn tc tz ba bn bc bl da dn dc dz bss ra rn rc rz ia im ic ss ea en ec es) (l0 : 0 ≤ l) (l1 : l ≤ 1048576) :
    Calls Tryz.prog 46 #[.agg #[.string nm, .slice ta tn tc, .slice ba bn bc, .slice da dn dc, .int .i64 bss, .slice ra rn rc, .slice ia im ic, .slice ea en ec], .int .i64 l] w fun e w' => e = .returned (.int .i64 (szR l (mdSize nm tn bn bl dn rn im ss en es))) ∧ Below w.heap.size w w' := by
  obtain ⟨W, hW⟩ : ∃ W, W = w.alloc (.cells #[.string nm, .slice ta tn tc, .slice ba bn bc, .slice da dn dc, .int .i64 bss, .slice ra rn rc, .slice ia im ic, .slice ea en ec] 97) := ⟨_, rfl⟩
  have hB0 : Below w.heap.size w W := by rw [hW]; exact (Below.refl _ _).alloc (Nat.le_refl _) _
  have kb : Blk W w.heap.size #[.string nm, .slice ta tn tc, .slice ba bn bc, .slice da dn dc, .int .i64 bss, .slice ra rn rc, .slice ia im ic, .slice ea en ec] 97 := by rw [hW]; exact Blk.new _ _ _
  obtain ⟨q0, q1, q2, q3, q4, q5, q6, q7⟩ := kb.eight
  have HW := hide hW
  clear hW
  obtain ⟨r, hr⟩ : ∃ r, r = szR l (mdSize nm tn bn bl dn rn im ss en es) := ⟨_, rfl⟩
  rw [← hr]
  unfold szR mdSize at hr
  have HR := hide hr
  clear hr
  have H0 := h.below hB0
  have hns := h.n
  unfold maxLen at hns
  by_cases c0 : l < (nm.size : Int)
  · have e := hide (show r = -1 from by rw [HR.out, if_pos (by omega)])
    have c0' : l - (nm.size : Int) < 0 := by omega
    go_enter Tryz.func46, Tryz.ntmps46
    go_wp2_with (rw [← HW.out])
    go_ret
    exact ⟨ret_int e.out.symm, hB0⟩
  · have c0' : ¬ l - (nm.size : Int) < 0 := by omega
    obtain ⟨z0, hz0⟩ : ∃ z : Int, z = l - nm.size := ⟨_, rfl⟩
    have g0 : 0 ≤ z0 := by omega
    have g0' : z0 ≤ 1048576 := by omega
    go_enter Tryz.func46, Tryz.ntmps46
    go_wp2_with (rw [← HW.out])
    rw [← hz0]
    have HZ0 := hide hz0
    clear hz0
    have HS0 := hide (fun w => szIntS_any ta tn tc z0 w g0 g0' h.t.2.1)
    by_cases k0 : z0 < ((tn : Nat) : Int)
    · rw [if_pos k0] at HS0
      have e := hide (show r = -1 from by have h1 := HZ0.out; rw [HR.out, if_pos (by omega)])
      refine (HS0.out _).mono ?_
      rintro e w1 ⟨rfl, rfl⟩
      go_wp2
      go_ret
      exact ⟨ret_int e.out.symm, hB0⟩
    · rw [if_neg k0] at HS0
      obtain ⟨z1, hz⟩ : ∃ z : Int, z = z0 - ((tn : Nat) : Int) := ⟨_, rfl⟩
      rw [← hz] at HS0
      have g1 : 0 ≤ z1 := by omega
      have g1' : z1 ≤ 1048576 := by omega
      have HZ1 : Hid (z1 = l - nm.size - ((tn : Nat) : Int)) := by have h1 := HZ0.out; show _ = _; omega
      clear hz
      refine (HS0.out _).mono ?_
      rintro e w1 ⟨rfl, rfl⟩
      have ng0 : ¬ z1 < 0 := by omega
      go_wp2_with fail
      have HS1 := hide (fun w hb => szIntSS_any ba bn bc bl z1 w hb g1 g1')
      unfold szR at HS1
      by_cases k1 : z1 < (((bn + upS (fun j => (bl.getD j zB).2.1) bn) : Nat) : Int)
      · rw [if_pos k1] at HS1
        have e := hide (show r = -1 from by have h1 := HZ1.out; rw [HR.out, if_pos (by omega)])
        refine (HS1.out _ H0.b).mono ?_
        rintro e w1 ⟨rfl, rfl⟩
        go_wp2
        go_ret
        exact ⟨ret_int e.out.symm, hB0⟩
      · rw [if_neg k1] at HS1
        obtain ⟨z2, hz⟩ : ∃ z : Int, z = z1 - (((bn + upS (fun j => (bl.getD j zB).2.1) bn) : Nat) : Int) := ⟨_, rfl⟩
        rw [← hz] at HS1
        have g2 : 0 ≤ z2 := by omega
        have g2' : z2 ≤ 1048576 := by omega
        have HZ2 : Hid (z2 = l - nm.size - ((tn : Nat) : Int) - (((bn + upS (fun j => (bl.getD j zB).2.1) bn) : Nat) : Int)) := by have h1 := HZ1.out; show _ = _; omega
        clear hz
        refine (HS1.out _ H0.b).mono ?_
        rintro e w1 ⟨rfl, rfl⟩
        have ng1 : ¬ z2 < 0 := by omega
        go_wp2_with fail
        have HS2 := hide (fun w => szByteS_any da dn dc z2 w g2 g2' h.d.2.1)
        by_cases k2 : z2 < ((dn : Nat) : Int)
        · rw [if_pos k2] at HS2
          have e := hide (show r = -1 from by have h1 := HZ2.out; rw [HR.out, if_pos (by omega)])
          refine (HS2.out _).mono ?_
          rintro e w1 ⟨rfl, rfl⟩
          go_wp2
          go_ret
          exact ⟨ret_int e.out.symm, hB0⟩
        · rw [if_neg k2] at HS2
          obtain ⟨z3, hz⟩ : ∃ z : Int, z = z2 - ((dn : Nat) : Int) := ⟨_, rfl⟩
          rw [← hz] at HS2
          have g3 : 0 ≤ z3 := by omega
          have g3' : z3 ≤ 1048576 := by omega
          have HZ3 : Hid (z3 = l - nm.size - ((tn : Nat) : Int) - (((bn + upS (fun j => (bl.getD j zB).2.1) bn) : Nat) : Int) - ((dn : Nat) : Int)) := by have h1 := HZ2.out; show _ = _; omega
          clear hz
          refine (HS2.out _).mono ?_
          rintro e w1 ⟨rfl, rfl⟩
          have ng2 : ¬ z3 < 0 := by omega
          go_wp2_with fail
          have HS3 := hide (fun w => szIntS_any ra rn rc z3 w g3 g3' h.r.2.1)
          by_cases k3 : z3 < ((rn : Nat) : Int)
          · rw [if_pos k3] at HS3
            have e := hide (show r = -1 from by have h1 := HZ3.out; rw [HR.out, if_pos (by omega)])
            refine (HS3.out _).mono ?_
            rintro e w1 ⟨rfl, rfl⟩
            go_wp2
            go_ret
            exact ⟨ret_int e.out.symm, hB0⟩
          · rw [if_neg k3] at HS3
            obtain ⟨z4, hz⟩ : ∃ z : Int, z = z3 - ((rn : Nat) : Int) := ⟨_, rfl⟩
            rw [← hz] at HS3
            have g4 : 0 ≤ z4 := by omega
            have g4' : z4 ≤ 1048576 := by omega
            have HZ4 : Hid (z4 = l - nm.size - ((tn : Nat) : Int) - (((bn + upS (fun j => (bl.getD j zB).2.1) bn) : Nat) : Int) - ((dn : Nat) : Int) - ((rn : Nat) : Int)) := by have h1 := HZ3.out; show _ = _; omega
            clear hz
            refine (HS3.out _).mono ?_
            rintro e w1 ⟨rfl, rfl⟩
            have ng3 : ¬ z4 < 0 := by omega
            go_wp2_with fail
            have HS4 := hide (fun w hb => szStringS_any ia im ic ss z4 w hb g4 g4')
            unfold szR at HS4
            by_cases k4 : z4 < (((im + upS (fun j => (ss.getD j zS).size) im) : Nat) : Int)
            · rw [if_pos k4] at HS4
              have e := hide (show r = -1 from by have h1 := HZ4.out; rw [HR.out, if_pos (by omega)])
              refine (HS4.out _ H0.i).mono ?_
              rintro e w1 ⟨rfl, rfl⟩
              go_wp2
              go_ret
              exact ⟨ret_int e.out.symm, hB0⟩
            · rw [if_neg k4] at HS4
              obtain ⟨z5, hz⟩ : ∃ z : Int, z = z4 - (((im + upS (fun j => (ss.getD j zS).size) im) : Nat) : Int) := ⟨_, rfl⟩
              rw [← hz] at HS4
              have g5 : 0 ≤ z5 := by omega
              have g5' : z5 ≤ 1048576 := by omega
              have HZ5 : Hid (z5 = l - nm.size - ((tn : Nat) : Int) - (((bn + upS (fun j => (bl.getD j zB).2.1) bn) : Nat) : Int) - ((dn : Nat) : Int) - ((rn : Nat) : Int) - (((im + upS (fun j => (ss.getD j zS).size) im) : Nat) : Int)) := by have h1 := HZ4.out; show _ = _; omega
              clear hz
              refine (HS4.out _ H0.i).mono ?_
              rintro e w1 ⟨rfl, rfl⟩
              have ng4 : ¬ z5 < 0 := by omega
              go_wp2_with fail
              have HS5 := hide (fun w hb => szExportS_any ea en ec es z5 w hb g5 g5')
              unfold szR at HS5
              by_cases k5 : z5 < (((en + upS (fun j => (es.getD j zE).1.size) en) : Nat) : Int)
              · rw [if_pos k5] at HS5
                have e := hide (show r = -1 from by have h1 := HZ5.out; rw [HR.out, if_pos (by omega)])
                refine (HS5.out _ H0.e).mono ?_
                rintro e w1 ⟨rfl, hbE⟩
                go_wp2
                go_ret
                exact ⟨ret_int e.out.symm, hB0.trans (hbE.mono hB0.size)⟩
              · rw [if_neg k5] at HS5
                obtain ⟨z6, hz⟩ : ∃ z : Int, z = z5 - (((en + upS (fun j => (es.getD j zE).1.size) en) : Nat) : Int) := ⟨_, rfl⟩
                rw [← hz] at HS5
                have g6 : 0 ≤ z6 := by omega
                have g6' : z6 ≤ 1048576 := by omega
                have HZ6 : Hid (z6 = l - nm.size - ((tn : Nat) : Int) - (((bn + upS (fun j => (bl.getD j zB).2.1) bn) : Nat) : Int) - ((dn : Nat) : Int) - ((rn : Nat) : Int) - (((im + upS (fun j => (ss.getD j zS).size) im) : Nat) : Int) - (((en + upS (fun j => (es.getD j zE).1.size) en) : Nat) : Int)) := by have h1 := HZ5.out; show _ = _; omega
                clear hz
                refine (HS5.out _ H0.e).mono ?_
                rintro e w1 ⟨rfl, hbE⟩
                have ng5 : ¬ z6 < 0 := by omega
                have e := hide (show r = z6 from by have h1 := HZ6.out; rw [HR.out, if_neg (by omega)]; omega)
                go_wp2
                go_ret
                exact ⟨ret_int e.out.symm, hB0.trans (hbE.mono hB0.size)⟩
def RowT (w : World) (g : Nat) (zs : List ByteArray) : Prop := w.heap[g]? = some (.cells (zs.map (Value.string)).toArray 9 (0, 0))
theorem RowT.cell {w : World} {g : Nat} {zs : List ByteArray} (h : RowT w g zs) (i : Nat) (hi : i < zs.length) : w.cell? ⟨g, i, none⟩ = some (.string (zs.getD i zS)) := by
  rw [cell_of_row w g i _ _ _ h]; simp [List.getD_eq_getElem?_getD, hi]
theorem RowT.frozen {w : World} {g : Nat} {zs : List ByteArray} (h : RowT w g zs) (i : Nat) : w.frozen? ⟨g, i, none⟩ = false := frozen_of_row w g i _ _ h
theorem RowT.set {w : World} {g : Nat} {zs : List ByteArray} (h : RowT w g zs) (i : Nat) (z : ByteArray) : RowT (w.setCell ⟨g, i, none⟩ (.string z)) g (zs.set i z) := by
  unfold RowT at *
  rw [heap_setCell_same w g i _ _ _ h]
  simp [List.map_set]
theorem RowT.lt {w : World} {g : Nat} {zs : List ByteArray} (h : RowT w g zs) : g < w.heap.size := by
  unfold RowT at h
  by_cases hg : g < w.heap.size
  · exact hg
  · simp [Array.getElem?_eq_none (Nat.le_of_not_lt hg)] at h
theorem infoT : (Tryz.prog.info? 9).map (fun i => (i.zero, i.size, i.bytes)) = some (some (.string ⟨#[]⟩), 1, 16) := by kernel_rfl
theorem madeT (n : Nat) : (madeCells (Value.cells (.string ⟨#[]⟩)) (n * 1)) = ((List.replicate n zS).map (Value.string)).toArray := by
  apply Array.ext
  · simp [size_madeCells]
  · intro i h1 h2
    simp [madeCells, Value.cells, Nat.mod_one, zS]
theorem rowT_of_made {w : World} {base g n : Nat} (h : w.ownsRow base 9 1 (.slice (some ⟨g, 0, none⟩) n n) n (madeCells (Value.cells (.string ⟨#[]⟩)) (n * 1)).toList) : RowT w g (List.replicate n zS) := by
  obtain ⟨hl, h | ⟨g', cap, cur, hv, hb, hh, h1, h2, h3, h4⟩⟩ := h
  · simp at h
  · simp at hv
    obtain ⟨rfl, rfl⟩ := hv
    unfold RowT
    rw [hh]
    have e : cur.toList = (madeCells (Value.cells (.string ⟨#[]⟩)) (n * 1)).toList := by
      rw [← h4, List.take_of_length_le (by simp [h3])]
    have e2 : cur = madeCells (Value.cells (.string ⟨#[]⟩)) (n * 1) := Array.toList_inj.1 e
    rw [e2, madeT]
def midT (zs : List ByteArray) (k : Nat) : List ByteArray := (List.range zs.length).map (fun i => if i < k then zs.getD i zS else zS)
theorem midT_len (zs : List ByteArray) (k : Nat) : (midT zs k).length = zs.length := by simp [midT]
theorem midT_zero (zs : List ByteArray) : midT zs 0 = List.replicate zs.length zS := by
  apply List.ext_getElem
  · simp [midT]
  · intro i h1 h2; simp [midT]
theorem midT_all (zs : List ByteArray) : midT zs zs.length = zs := by
  apply List.ext_getElem
  · simp [midT]
  · intro i h1 h2; simp [midT, h2]
theorem midT_set (zs : List ByteArray) (k : Nat) (h : k < zs.length) : (midT zs k).set k (zs.getD k zS) = midT zs (k + 1) := by
  apply List.ext_getElem
  · simp [midT]
  · intro i h1 h2
    simp only [midT, List.getElem_set, List.getElem_map, List.getElem_range]
    by_cases hik : k = i
    · subst hik; simp
    · by_cases h3 : i < k
      · simp [hik, h3, show i < k + 1 by omega]
      · simp [hik, h3, show ¬ i < k + 1 by omega]
set_option maxHeartbeats 1000000 in
theorem toStringS_any (a : Option Addr) (n cap : Nat) (zs : List ByteArray) (w : World) (h : TS w a n cap zs) (hn : n ≤ 1048576) :
    Calls Tryz.prog 138 #[.slice a n cap] w fun e w' => e = .returned (.slice (some ⟨w.heap.size, 0, none⟩) n n) ∧ RowT w' w.heap.size zs ∧ Below w.heap.size w w' := by
  obtain ⟨i0, hi, hz0, hz1, hz2⟩ := info_parts infoT
  obtain ⟨hl, hmx, hr, hc, _⟩ := h
  by_cases hn0 : n = 0
  · subst hn0
    obtain rfl : zs = [] := List.eq_nil_of_length_eq_zero hl
    clear hc
    go_enter Tryz.func138, Tryz.ntmps138
    go_wp2_with (at_make; refine wpList_make_full _ rfl _ _ 94 rfl w.heap.size 9 i0 (.string ⟨#[]⟩) 1 Tryz.underlying94 hi hz0 hz1 .i64 .i64 _ _ 0 rfl rfl rfl rfl (by omega) (by unfold maxLen; omega) (Nat.le_refl _) ?_; intro w1 hown hgr)
    have hrow := rowT_of_made hown
    have hbel := below_grown hgr
    clear hown hgr
    go_loop [4] (fun i => i = .int .i64 0) (fun _ => 0)
    case atStart => rfl
    case round =>
      obtain rfl := hrel
      go_wp2
      go_ret
      exact ⟨rfl, hrow, hbel⟩
  · obtain ⟨b, off, rfl, hd⟩ := hc hn0
    clear hc
    go_enter Tryz.func138, Tryz.ntmps138
    go_wp2_with (at_make; refine wpList_make_full _ rfl _ _ 94 rfl w.heap.size 9 i0 (.string ⟨#[]⟩) 1 Tryz.underlying94 hi hz0 hz1 .i64 .i64 _ _ n rfl rfl rfl rfl (by rw [hz2]; omega) (by unfold maxLen; omega) (Nat.le_refl _) ?_; intro w1 hown hgr)
    have hrow := rowT_of_made hown
    have hbel := below_grown hgr
    clear hown hgr hi hz0 hz1 hz2
    go_loopw [4] (fun i wr => ∃ k : Nat, k ≤ n ∧ i = .int .i64 k ∧ RowT wr w.heap.size (midT zs k) ∧ Below w.heap.size w wr) (fun i _ => n - (intOf i).toNat)
    case atStart => exact ⟨0, Nat.zero_le _, rfl, by rw [midT_zero, hl]; exact hrow, hbel⟩
    case round =>
      obtain ⟨k, hk, rfl, hR, hB⟩ := hrel
      clear hrow hbel
      by_cases hlt : k < n
      · have hlt' : (k : Int) < (n : Int) := by omega
        have hck : wr.cell? ⟨b, off + k, none⟩ = some (.string (zs.getD k zS)) := (hB.cell (World.block_lt_of_cell? w _ (hd k hlt))).trans (hd k hlt)
        have hgk : wr.cell? ⟨w.heap.size, k, none⟩ = some (.string ((midT zs k).getD k zS)) := hR.cell k (by rw [midT_len]; omega)
        have hfk : wr.frozen? ⟨w.heap.size, k, none⟩ = false := hR.frozen k
        have R' := hR.set k (zs.getD k zS)
        rw [midT_set zs k (by omega)] at R'
        have B' : Below w.heap.size w (wr.setCell ⟨w.heap.size, k, none⟩ (.string (zs.getD k zS))) := hB.setCell (Nat.le_refl _) _
        have HR := R'
        have HB := B'
        generalize zs.getD k zS = z at *
        generalize (midT zs k).getD k zS = z0 at *
        clear hd hR hB
        go_wp2
        go_roundw
        case rel => exact ⟨k + 1, by omega, by go_num, HR, HB⟩
        case measure => simp [intOf]; omega
      · have e : Hid (k = n) := by show k = n; omega
        go_wp2
        go_ret
        exact ⟨rfl, by rw [e.out, ← hl, midT_all] at hR; exact hR, hB⟩
set_option maxHeartbeats 1000000 in
theorem eqStringS_same (a a' : Option Addr) (n cap cap' : Nat) (ss : List ByteArray) (w : World) (h : TS w a n cap ss) (h' : TS w a' n cap' ss) :
    Calls Tryz.prog 145 #[.slice a n cap, .slice a' n cap'] w fun e w' => e = .returned (.bool true) ∧ Below w.heap.size w w' := by
  have hm := h.2.1
  unfold maxLen at hm
  have hnn : ((n : Int) != (n : Int)) = false := by simp
  go_enter Tryz.func145, Tryz.ntmps145
  go_wp2_with fail
  go_loopw [5] (fun i wr => ∃ k : Nat, k ≤ n ∧ i = .int .i64 k ∧ Below w.heap.size w wr) (fun i _ => n - (intOf i).toNat)
  case atStart => exact ⟨0, Nat.zero_le _, rfl, Below.refl _ _⟩
  case round =>
    obtain ⟨k, hk, rfl, hB⟩ := hrel
    by_cases hlt : k < n
    · have hlt' : (k : Int) < (n : Int) := by omega
      obtain ⟨b, off, rfl, y1⟩ := (h.below hB).at k hlt
      obtain ⟨b', off', rfl, y2⟩ := (h'.below hB).at k hlt
      generalize ss.getD k zS = s at *
      have hss : (s.toList != s.toList) = false := by simp
      go_wp2_with fail
      go_quiet (fail)
      go_wp2
      go_roundw
      case rel => exact ⟨k + 1, by omega, by go_num, below_drewN hB nq⟩
      case measure => simp [intOf]; omega
    · go_wp2
      go_ret
      exact ⟨rfl, hB⟩
end Go.Proofs.YtngdgogjlpjjpaeGreat
namespace Go.Proofs.YtngdgogjlpjjpaeGreat
open Go Go.Maps Go.WideShapes
set_option linter.unusedSimpArgs false
def fd (f : Nat → List UInt8) : Nat → DataW Unit
  | 0 => .map []
  | k + 1 => if has (fd f k) (.string (f k)) then fd f k else (fd f k).put (.string (f k)) (.lit (.int .i64 k))
theorem fd_succ (f : Nat → List UInt8) (k : Nat) : fd f (k + 1) = if has (fd f k) (.string (f k)) then fd f k else (fd f k).put (.string (f k)) (.lit (.int .i64 k)) := rfl
theorem key_str (s : List UInt8) : WideAt.IsKeyLit (.string s) := by simp [WideAt.IsKeyLit]
theorem fd_tidy (f : Nat → List UInt8) : ∀ k, Tidy (fd f k)
  | 0 => tidy_empty
  | k + 1 => by
    rw [fd_succ]
    split
    · exact fd_tidy f k
    · exact (fd_tidy f k).put (key_str _) _
theorem fd_has (f : Nat → List UInt8) (s : List UInt8) : ∀ k, has (fd f k) (.string s) = (List.range k).any (fun j => f j == s)
  | 0 => rfl
  | k + 1 => by
    rw [List.range_succ, List.any_append, ← fd_has f s k]
    rw [fd_succ]
    by_cases e : f k = s
    · subst e
      split
      · rename_i h; rw [h]; rfl
      · rw [has_put_same (fd_tidy f k).isMap (key_str _)]; simp
    · have e' : (Lit.string s) ≠ .string (f k) := by intro h; injection h with h; exact e h.symm
      split
      · simp [e]
      · rw [has_put_other e']; simp [e]
theorem fd_size_le (f : Nat → List UInt8) : ∀ k, size (fd f k) ≤ k
  | 0 => Nat.le_refl _
  | k + 1 => by
    have := fd_size_le f k
    rw [fd_succ]
    split
    · omega
    · rename_i h
      rw [size_put (fd_tidy f k), if_neg h]
      omega
theorem fd_size (f : Nat → List UInt8) : ∀ k, decide (size (fd f k) = k) = (List.range k).all (fun i => (List.range i).all fun j => !(f j == f i))
  | 0 => rfl
  | k + 1 => by
    have h1 := fd_size_le f k
    rw [List.range_succ, List.all_append, ← fd_size f k]
    have hh := fd_has f (f k) k
    have e : (List.range k).all (fun j => !(f j == f k)) = !(has (fd f k) (.string (f k))) := by rw [hh]; induction List.range k with | nil => rfl | cons a l ih => simp [ih]
    simp only [List.all_cons, List.all_nil, Bool.and_true, e]
    rw [fd_succ]
    cases hb : has (fd f k) (.string (f k))
    · rw [if_neg (by simp), size_put (fd_tidy f k), hb, if_neg (by simp)]
      simp
    · rw [if_pos rfl]
      simp
      omega
def fst? (f : Nat → List UInt8) (s : List UInt8) : Nat → Option Nat
  | 0 => none
  | k + 1 => match fst? f s k with | some j => some j | none => if f k = s then some k else none
theorem fst_succ (f : Nat → List UInt8) (s : List UInt8) (k : Nat) : fst? f s (k + 1) = match fst? f s k with | some j => some j | none => if f k = s then some k else none := rfl
theorem fst_has (f : Nat → List UInt8) (s : List UInt8) : ∀ k, (fst? f s k).isSome = has (fd f k) (.string s)
  | 0 => rfl
  | k + 1 => by
    rw [fd_has, List.range_succ, List.any_append, ← fd_has, ← fst_has f s k]
    rw [fst_succ]
    cases fst? f s k with
    | some j => simp
    | none => by_cases e : f k = s <;> simp [e]
theorem fd_at (f : Nat → List UInt8) (s : List UInt8) (z : DataW Unit) : ∀ k, (fd f k).atKey (.string s) z = match fst? f s k with | some j => .lit (.int .i64 j) | none => z
  | 0 => rfl
  | k + 1 => by
    have ih := fd_at f s z k
    have hh := fst_has f s k
    rw [fst_succ, fd_succ]
    by_cases e : f k = s
    · subst e
      cases hf : fst? f (f k) k with
      | some j => rw [hf] at hh ih; simp only [Option.isSome_some] at hh; rw [if_pos hh.symm]; simpa using ih
      | none => rw [hf] at hh; simp only [Option.isSome_none] at hh; rw [if_neg (by rw [← hh]; simp), atKey_put_same (fd_tidy f k).isMap (key_str _)]; simp
    · have e' : (Lit.string s) ≠ .string (f k) := by intro h; injection h with h; exact e h.symm
      split <;> (cases hf : fst? f s k with
        | some j => rw [hf] at ih; simpa [atKey_put_other e'] using ih
        | none => rw [hf] at ih; simpa [atKey_put_other e', e] using ih)
end Go.Proofs.YtngdgogjlpjjpaeGreat
namespace Go.Proofs.YtngdgogjlpjjpaeGreat
open Go.RowKit Go.Maps
set_option linter.unusedVariables false
set_option linter.unusedSimpArgs false
set_option maxRecDepth 100000
theorem lawS : Keyed Tryz.prog 9 := string_keyed Tryz.underlying9
theorem zeroI (w : World) : (zeroValue 3).run Tryz.prog w = .ok (.int .i64 0) w := by kernel_rfl
theorem exportName_any (s : ByteArray) (b i : Int) (w : World) :
    Calls Tryz.prog 272 #[.agg #[.string s, .int .i64 b, .int .i64 i]] w fun e w' => e = .returned (.string s) ∧ Below w.heap.size w w' := by
  go_enter Tryz.func272, Tryz.ntmps272
  go_wp2
  go_ret
  exact ⟨rfl, (Below.refl _ _).alloc (Nat.le_refl _) _⟩
theorem run_makeMap_room (x : Int) (w : World) : (Instr.makeMap 262 (some (.int .i64 x))).run Tryz.prog w = .ok (.map (some w.heap.size)) (w.alloc (.map #[] 0)) := by
  simp [Instr.makeMap, asInt, asIntOf, run_underlying Tryz.underlying262, Result.andThen]
def exNm (es : List Ex) (i : Nat) : List UInt8 := (es.getD i zE).1.data.toList
set_option maxHeartbeats 2000000 in
theorem firstOfE_any (ea : Option Addr) (n ec : Nat) (es : List Ex) (w : World) (h : ES w ea n ec es) (hn : n ≤ 1048576) :
    Calls Tryz.prog 271 #[.slice ea n ec, .func (.func 272) #[] #[]] w fun e w' => e = .returned (.map (some w.heap.size)) ∧ w'.ownsMap Tryz.prog 9 (plainElem Tryz.prog 3) w.heap.size n (fd (exNm es) n) ∧ Below w.heap.size w w' := by
  have hmm := run_makeMap_room
  have hm1 := h.2.1
  unfold maxLen at hm1
  go_enter Tryz.func271, Tryz.ntmps271
  go_wp2
  go_loopw [16] (fun i wr => ∃ k : Nat, k ≤ n ∧ i = .int .i64 k ∧ wr.ownsMap Tryz.prog 9 (plainElem Tryz.prog 3) w.heap.size k (fd (exNm es) k) ∧ Below w.heap.size w wr) (fun i _ => n - (intOf i).toNat)
  case atStart => exact ⟨0, Nat.zero_le _, rfl, World.ownsMap_made _ _ _ _, (Below.refl _ _).alloc (Nat.le_refl _) _⟩
  case round =>
    obtain ⟨k, hk, rfl, hown, hB⟩ := hrel
    by_cases hlt : k < n
    · have hlt' : (k : Int) < (n : Int) := by omega
      obtain ⟨bb, off, rfl⟩ := h.addr (by omega)
      obtain ⟨y1, y2, y3⟩ := (h.below hB).at k hlt
      have hsz := h.size k
      have HX := hide (fd_succ (exNm es) k)
      have hkl : exNm es k = (es.getD k zE).1.data.toList := rfl
      rw [hkl] at HX
      clear hkl
      generalize es.getD k zE = E at *
      obtain ⟨en, eb, ei⟩ := E
      dsimp only at y1 y2 y3 hsz HX
      have hkey : keyOf Tryz.prog 9 (.string en) = some (.string en.data.toList) := Go.WideMaps.keyOf_string_mk Tryz.underlying9 (by unfold maxLen; omega)
      have HKEY := hide hkey
      clear hkey
      have hA : Below wr.heap.size wr (wr.alloc (.cells #[.string en, .int .i64 eb, .int .i64 ei] 207)) := (Below.refl _ _).alloc (Nat.le_refl _) _
      go_wp2_with fail
      refine (exportName_any en eb ei _).mono ?_
      rintro e w1 ⟨rfl, hb1⟩
      have hb1' := hA.trans (hb1.mono hA.size)
      have hB1 := hB.trans (hb1'.mono hB.size)
      have hown1 : w1.ownsMap Tryz.prog 9 (plainElem Tryz.prog 3) w.heap.size k (fd (exNm es) k) := by
        obtain ⟨es', cl, hh, r⟩ := hown
        refine ⟨es', cl, ?_, r⟩
        have hl : w.heap.size < wr.heap.size := by
          rcases Nat.lt_or_ge w.heap.size wr.heap.size with h' | h'
          · exact h'
          · rw [Array.getElem?_eq_none h'] at hh; cases hh
        rw [hb1'.block _ hl]
        exact hh
      clear hown hA hb1 hb1' y1 y2 y3
      cases hh : has (fd (exNm es) k) (.string en.data.toList)
      · rw [hh] at HX
        go_wp2_with (first
          | (at_lookup; refine wpList_lookup_own_ok_int _ rfl _ _ 262 rfl 9 3 .i64 lawS Tryz.underlying262 Tryz.underlying3 (zeroI _) w.heap.size k _ rfl hown1 _ _ rfl HKEY.out ?_; intro c hat hwc; clear hat; rw [hh])
          | (at_mapUpdate; refine wpList_mapUpdate_own _ rfl _ _ _ 262 rfl 9 3 lawS Tryz.underlying262 _ w.heap.size k _ rfl hown1 (by unfold maxLen; omega) _ _ _ rfl rfl HKEY.out _ [] (plainElem_int Tryz.underlying3 (WalkArith.wf_i64 (by omega))) ?_; intro w2 hown2 hgr2))
        have HO := hide hown2
        have HB2 := hide (hB1.grown hgr2 hB1.size (fun j hj => by cases hj; exact Nat.le_refl _))
        clear hown2 hgr2 hown1
        go_wp2
        go_roundw
        case rel => exact ⟨k + 1, by omega, by go_num, by have := HO.out; rw [HX.out, if_neg (by simp)]; exact this, HB2.out⟩
        case measure => simp [intOf]; omega
      · rw [hh] at HX
        go_wp2_with (first
          | (at_lookup; refine wpList_lookup_own_ok_int _ rfl _ _ 262 rfl 9 3 .i64 lawS Tryz.underlying262 Tryz.underlying3 (zeroI _) w.heap.size k _ rfl hown1 _ _ rfl HKEY.out ?_; intro c hat hwc; clear hat; rw [hh]))
        have HO := hide hown1
        clear hown1
        go_wp2
        go_roundw
        case rel => exact ⟨k + 1, by omega, by go_num, by have := HO.out; rw [HX.out, if_pos trivial]; exact this.mono (by omega), hB1⟩
        case measure => simp [intOf]; omega
    · have e : Hid (k = n) := by show k = n; omega
      go_wp2
      go_ret
      exact ⟨rfl, by rw [e.out] at hown; exact hown, hB⟩
theorem exn_size (es : List Ex) (n : Nat) : (List.range n).all (exn es) = decide (size (fd (exNm es) n) = n) := by
  rw [fd_size]
  congr 1
  funext i
  unfold exn exNm
  congr 1
  funext j
  rw [ByteArray.toList_eq, ByteArray.toList_eq]
theorem exo_last (tn bn : Nat) (bl : List Bk) (n : Nat) (es : List Ex) (h : ∀ j, j < n → ex1 tn bn bl (es.getD j zE) = true) : (List.range n).all (fun i => ex1 tn bn bl (es.getD i zE) && exn es i) = decide (size (fd (exNm es) n) = n) := by
  rw [← exn_size, Bool.eq_iff_iff, List.all_eq_true, List.all_eq_true]
  constructor
  · intro H i hi
    have := H i hi
    simp only [Bool.and_eq_true] at this
    exact this.2
  · intro H i hi
    rw [h i (by simpa using hi), H i hi]
    rfl
set_option maxHeartbeats 4000000 in
theorem exportsOk_any (nm : ByteArray) (ta : Option Addr) (tn tc : Nat) (ba : Option Addr) (bn bc : Nat) (bl : List Bk) (v3 v5 v6 : Value) (bss : Int) (ea : Option Addr) (n ec : Nat) (es : List Ex) (w : World) (htn : tn ≤ maxLen) (hb : BKS w ba bn bc bl) (h : ES w ea n ec es) :
    Calls Tryz.prog 268 #[.agg #[.string nm, .slice ta tn tc, .slice ba bn bc, v3, .int .i64 bss, v5, v6, .slice ea n ec]] w fun e w' => e = .returned (.bool (exo tn bn bl n es)) ∧ Below w.heap.size w w' := by
  obtain ⟨W, hW⟩ : ∃ W, W = w.alloc (.cells #[.string nm, .slice ta tn tc, .slice ba bn bc, v3, .int .i64 bss, v5, v6, .slice ea n ec] 104) := ⟨_, rfl⟩
  have hB0 : Below w.heap.size w W := by rw [hW]; exact (Below.refl _ _).alloc (Nat.le_refl _) _
  have kb : Blk W w.heap.size #[.string nm, .slice ta tn tc, .slice ba bn bc, v3, .int .i64 bss, v5, v6, .slice ea n ec] 104 := by rw [hW]; exact Blk.new _ _ _
  obtain ⟨q0, q1, q2, q3, q4, q5, q6, q7⟩ := kb.eight
  obtain ⟨r, hr⟩ : ∃ r, r = exo tn bn bl n es := ⟨_, rfl⟩
  rw [← hr]
  unfold exo at hr
  have hm1 := h.2.1
  unfold maxLen at hm1
  have HW := hide hW
  clear hW
  by_cases c1 : 16 < n
  · have HR := hide (show r = false by rw [hr, decide_eq_false (by omega)]; rfl)
    clear hr
    have c1' : (16 : Int) < (n : Int) := by omega
    go_enter Tryz.func268, Tryz.ntmps268
    go_wp2_with (rw [← HW.out])
    go_ret
    exact ⟨ret_bool HR.out.symm, hB0⟩
  · have c1' : ¬ (16 : Int) < (n : Int) := by omega
    have HR := hide (show r = (List.range n).all (fun i => ex1 tn bn bl (es.getD i zE) && exn es i) by rw [hr, decide_eq_true (by omega)]; rfl)
    clear hr
    go_enter Tryz.func268, Tryz.ntmps268
    go_wp2_with (rw [← HW.out])
    clear q0 q1 q2 q3 q4 q5 q6 q7
    go_loopw [14] (fun i wr => ∃ k : Nat, k ≤ n ∧ i = .int .i64 k ∧ Hid (∀ j, j < k → ex1 tn bn bl (es.getD j zE) = true) ∧ Below w.heap.size w wr ∧ Blk wr w.heap.size #[.string nm, .slice ta tn tc, .slice ba bn bc, v3, .int .i64 bss, v5, v6, .slice ea n ec] 104) (fun i _ => n - (intOf i).toNat)
    case atStart => exact ⟨0, Nat.zero_le _, rfl, hide (fun j hj => by omega), hB0, kb⟩
    case round =>
      obtain ⟨k, hk, rfl, HJ, hB, kw⟩ := hrel
      clear kb hB0
      obtain ⟨q0, q1, q2, q3, q4, q5, q6, q7⟩ := kw.eight
      by_cases hlt : k < n
      · have hlt' : (k : Int) < (n : Int) := by omega
        obtain ⟨bb, off, rfl⟩ := h.addr (by omega)
        obtain ⟨y1, y2, y3⟩ := (h.below hB).at k hlt
        have HZ := hide (rng_bad (fun i => ex1 tn bn bl (es.getD i zE) && exn es i) n k hlt)
        have HG := hide (show ex1 tn bn bl (es.getD k zE) = true → ∀ j, j < k + 1 → ex1 tn bn bl (es.getD j zE) = true from fun h j hj => by
          by_cases e : j = k
          · subst e; exact h
          · exact HJ.out j (by omega))
        have HN := hide (fun w => isName_any (es.getD k zE).1 w (h.size k))
        generalize es.getD k zE = E at *
        obtain ⟨en, eb, ei⟩ := E
        dsimp only at y1 y2 y3 HN
        have lkw := kw.lt
        have hb1 := hb.below (hB.alloc hB.size (.cells #[.string en, .int .i64 eb, .int .i64 ei] 207))
        have HP := hide (fun w h => pieceOf_any nm ta tn tc ba bn bc bl v3 v5 v6 (.slice (some ⟨bb, off, none⟩) n ec) bss eb w htn h)
        have kE := Blk.new wr #[.string en, .int .i64 eb, .int .i64 ei] 207
        have hA : Below wr.heap.size wr (wr.alloc (.cells #[.string en, .int .i64 eb, .int .i64 ei] 207)) := (Below.refl _ _).alloc (Nat.le_refl _) _
        go_wp2_with fail
        refine (HP.out _ hb1).mono ?_
        rintro e w1 ⟨pa, pn, px, ok, rfl, hok, hpn, hpm, hbp⟩
        have kE1 := kE.below hbp
        have kw1 := (kw.below hA).below hbp
        have hB1 := (hB.trans (hA.mono hB.size)).trans (hbp.mono (by have := hB.size; simp; omega))
        clear kE kw hA hbp hb1 HP q0 q1 q2 q3 q4 q5 q6 q7 y1 y2 y3 hB
        unfold maxLen at hpm
        have HOK := hide (And.intro hok hpn)
        clear hok hpn
        obtain ⟨z1, z2, z3, z4⟩ := kE1.three
        have HEX := hide (show ex1 tn bn bl (en, eb, ei) = (nmo en && decide (0 ≤ ei ∧ ei < pcn tn bn bl eb)) from rfl)
        have HU := hide (fun w => isUpTo_any ei ((pn : Int) - 1) w)
        cases hn : nmo en
        · rw [hn] at HN
          go_wp2_with (go_at_call 264; refine (HN.out _).mono ?_; rintro e w2 ⟨rfl, rfl⟩)
          go_ret
          exact ⟨ret_bool (by rw [HR.out]; exact (HZ.out (by rw [HEX.out, hn]; rfl)).symm), hB1⟩
        · rw [hn] at HN
          cases ok
          · have hp : ¬ 0 ≤ pcn tn bn bl eb := by have := HOK.out.1; simpa using this.symm
            go_wp2_with (go_at_call 264; refine (HN.out _).mono ?_; rintro e w2 ⟨rfl, rfl⟩)
            go_ret
            exact ⟨ret_bool (by rw [HR.out]; exact (HZ.out (by rw [HEX.out, decide_eq_false (by omega)]; simp)).symm), hB1⟩
          · have hp : (pn : Int) = pcn tn bn bl eb := HOK.out.2 rfl
            have HPP := hide hp
            clear hp
            by_cases d1 : 0 ≤ ei ∧ ei ≤ (pn : Int) - 1
            · have HE1 := hide (show ex1 tn bn bl (en, eb, ei) = true by rw [HEX.out, hn, ← HPP.out, decide_eq_true (by omega)]; rfl)
              rw [decide_eq_true d1] at HU
              go_wp2_with (first | (go_at_call 264; refine (HN.out _).mono ?_; rintro e w2 ⟨rfl, rfl⟩) | (go_at_call 165; refine (HU.out _).mono ?_; rintro e w2 ⟨rfl, rfl⟩))
              go_roundw
              case rel => exact ⟨k + 1, by omega, by go_num, hide (HG.out HE1.out), hB1, kw1⟩
              case measure => simp [intOf]; omega
            · rw [decide_eq_false d1] at HU
              have HE1 := hide (show ex1 tn bn bl (en, eb, ei) = false by rw [HEX.out, hn, ← HPP.out, decide_eq_false (by omega)]; rfl)
              go_wp2_with (first | (go_at_call 264; refine (HN.out _).mono ?_; rintro e w2 ⟨rfl, rfl⟩) | (go_at_call 165; refine (HU.out _).mono ?_; rintro e w2 ⟨rfl, rfl⟩))
              go_ret
              exact ⟨ret_bool (by rw [HR.out]; exact (HZ.out (by rw [HE1.out]; rfl)).symm), hB1⟩
      · have e : k = n := by omega
        subst e
        have HE := hide (exo_last tn bn bl k es (fun j hj => HJ.out j hj))
        have h' := h.below hB
        have HF := hide (fun w h => firstOfE_any ea k ec es w h (by omega))
        obtain ⟨S, hS⟩ : ∃ S, S = size (fd (exNm es) k) := ⟨_, rfl⟩
        have HS := hide hS
        clear hS
        go_wp2_with fail
        go_region_with (first
            | (go_at_call 271; refine (HF.out _ (by exact h')).mono ?_; rintro e w1 ⟨rfl, hown, hb1⟩; have hl : ∀ ty, (Builtin.len_ #[262] ty #[.map (some wr.heap.size)]).run Tryz.prog w1 = .ok (.int .i64 (S : Int)) w1 := (by intro ty; rw [HS.out]; exact hown.len Tryz.underlying262 ty); replace hb1 := undrew hb1; obtain ⟨q0, q1, q2, q3, q4, q5, q6, q7⟩ := (kw.below hb1).eight; clear hown))
        all_goals
          have HB1 := hide (hB.trans (hb1.mono hB.size))
          go_wp2
          go_ret
          exact ⟨ret_bool (by rw [HR.out, HE.out, ← HS.out]; first | rfl | (rw [Bool.eq_iff_iff]; simp; omega)), HB1.out⟩
end Go.Proofs.YtngdgogjlpjjpaeGreat
