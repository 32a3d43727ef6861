import Derived.Test.YtngdgogjlpjjpacK29
import Derived.Test.YtngdgogjlpjjpacK30
namespace Go.Proofs.Ytngdgogjlpjjpac
open Go.RowKit
set_option linter.unusedVariables false
set_option linter.unusedSimpArgs false
set_option maxRecDepth 100000

/-- A MODULE AS IT CAME IN: its texts of any length. -/
structure MT (w : World) (nm : ByteArray) (ta : Option Addr) (tn tc : Nat) (tz : List Int) (ba : Option Addr) (bn bc : Nat) (bl : List Bk) (da : Option Addr) (dn dc : Nat) (dz : List Int) (bss : Int) (ra : Option Addr) (rn rc : Nat) (rz : List Int) (ia : Option Addr) (im ic : Nat) (ss : List ByteArray) (ea : Option Addr) (en ec : Nat) (es : List Ex) : Prop where
  n : nm.size ≤ maxLen
  t : IS w ta tn tc tz
  b : BKS w ba bn bc bl
  d : BS w da dn dc dz
  s : wfi bss
  r : IS w ra rn rc rz
  i : TS w ia im ic ss
  e : TE w ea en ec es
theorem MT.below {w w' : World} {nm : ByteArray} {ta : Option Addr} {tn tc : Nat} {tz : List Int} {ba : Option Addr} {bn bc : Nat} {bl : List Bk} {da : Option Addr} {dn dc : Nat} {dz : List Int} {bss : Int} {ra : Option Addr} {rn rc : Nat} {rz : List Int} {ia : Option Addr} {im ic : Nat} {ss : List ByteArray} {ea : Option Addr} {en ec : Nat} {es : List Ex} (h : MT w nm ta tn tc tz ba bn bc bl da dn dc dz bss ra rn rc rz ia im ic ss ea en ec es) (hb : Below w.heap.size w w') : MT w' nm ta tn tc tz ba bn bc bl da dn dc dz bss ra rn rc rz ia im ic ss ea en ec es :=
  ⟨h.n, h.t.below hb, h.b.below hb, h.d.below hb, h.s, h.r.below hb, h.i.below hb, h.e.below hb⟩
/-- what szModule counts -/
def mdSize (nm : ByteArray) (tn bn : Nat) (bl : List Bk) (dn rn im : Nat) (ss : List ByteArray) (en : Nat) (es : List Ex) : Nat :=
  nm.size + tn + (bn + upS (fun j => (bl.getD j zB).2.1) bn) + dn + rn + (im + upS (fun j => (ss.getD j zS).size) im) + (en + upS (fun j => (es.getD j zE).1.size) en)
theorem szR_if (l : Int) (t : Nat) : (if l < (t : Int) then -1 else l - (t : Int)) = szR l t := rfl

set_option maxHeartbeats 4000000 in
theorem szModule_any (nm : ByteArray) (ta : Option Addr) (tn tc : Nat) (tz : List Int) (ba : Option Addr) (bn bc : Nat) (bl : List Bk) (da : Option Addr) (dn dc : Nat) (dz : List Int) (bss : Int) (ra : Option Addr) (rn rc : Nat) (rz : List Int) (ia : Option Addr) (im ic : Nat) (ss : List ByteArray) (ea : Option Addr) (en ec : Nat) (es : List Ex) (l : Int) (w : World) (h : MT w nm ta tn tc tz ba bn bc bl da dn dc dz bss ra rn rc rz ia im ic ss ea en ec es) (l0 : 0 ≤ l) (l1 : l ≤ 1048576) :
    Calls Try.prog 23 #[.agg #[.string nm, .slice ta tn tc, .slice ba bn bc, .slice da dn dc, .int .i64 bss, .slice ra rn rc, .slice ia im ic, .slice ea en ec], .int .i64 l] w fun e w' => e = .returned (.int .i64 (szR l (mdSize nm tn bn bl dn rn im ss en es))) ∧ Below w.heap.size w w' := by
  obtain ⟨W, hW⟩ : ∃ W, W = w.alloc (.cells #[.string nm, .slice ta tn tc, .slice ba bn bc, .slice da dn dc, .int .i64 bss, .slice ra rn rc, .slice ia im ic, .slice ea en ec] 51) := ⟨_, rfl⟩
  have hB0 : Below w.heap.size w W := by rw [hW]; exact (Below.refl _ _).alloc (Nat.le_refl _) _
  have kb : Blk W w.heap.size #[.string nm, .slice ta tn tc, .slice ba bn bc, .slice da dn dc, .int .i64 bss, .slice ra rn rc, .slice ia im ic, .slice ea en ec] 51 := by rw [hW]; exact Blk.new _ _ _
  obtain ⟨q0, q1, q2, q3, q4, q5, q6, q7⟩ := kb.eight
  have HW := hide hW
  clear hW
  obtain ⟨r, hr⟩ : ∃ r, r = szR l (mdSize nm tn bn bl dn rn im ss en es) := ⟨_, rfl⟩
  rw [← hr]
  unfold szR mdSize at hr
  have HR := hide hr
  clear hr
  have H0 := h.below hB0
  have hns := h.n
  unfold maxLen at hns
  by_cases c0 : l < (nm.size : Int)
  · have e := hide (show r = -1 from by rw [HR.out, if_pos (by omega)])
    have c0' : l - (nm.size : Int) < 0 := by omega
    go_enter Try.func23, Try.ntmps23
    go_wp2_with (rw [← HW.out])
    go_ret
    exact ⟨ret_int e.out.symm, hB0⟩
  · have c0' : ¬ l - (nm.size : Int) < 0 := by omega
    obtain ⟨z0, hz0⟩ : ∃ z : Int, z = l - nm.size := ⟨_, rfl⟩
    have g0 : 0 ≤ z0 := by omega
    have g0' : z0 ≤ 1048576 := by omega
    go_enter Try.func23, Try.ntmps23
    go_wp2_with (rw [← HW.out])
    rw [← hz0]
    have HZ0 := hide hz0
    clear hz0
    have HS0 := hide (fun w => szIntS_any ta tn tc z0 w g0 g0' h.t.2.1)
    by_cases k0 : z0 < ((tn : Nat) : Int)
    · rw [if_pos k0] at HS0
      have e := hide (show r = -1 from by have h1 := HZ0.out; rw [HR.out, if_pos (by omega)])
      refine (HS0.out _).mono ?_
      rintro e w1 ⟨rfl, rfl⟩
      go_wp2
      go_ret
      exact ⟨ret_int e.out.symm, hB0⟩
    · rw [if_neg k0] at HS0
      obtain ⟨z1, hz⟩ : ∃ z : Int, z = z0 - ((tn : Nat) : Int) := ⟨_, rfl⟩
      rw [← hz] at HS0
      have g1 : 0 ≤ z1 := by omega
      have g1' : z1 ≤ 1048576 := by omega
      have HZ1 : Hid (z1 = l - nm.size - ((tn : Nat) : Int)) := by have h1 := HZ0.out; show _ = _; omega
      clear hz
      refine (HS0.out _).mono ?_
      rintro e w1 ⟨rfl, rfl⟩
      have ng0 : ¬ z1 < 0 := by omega
      go_wp2_with fail
      have HS1 := hide (fun w hb => szIntSS_any ba bn bc bl z1 w hb g1 g1')
      unfold szR at HS1
      by_cases k1 : z1 < (((bn + upS (fun j => (bl.getD j zB).2.1) bn) : Nat) : Int)
      · rw [if_pos k1] at HS1
        have e := hide (show r = -1 from by have h1 := HZ1.out; rw [HR.out, if_pos (by omega)])
        refine (HS1.out _ H0.b).mono ?_
        rintro e w1 ⟨rfl, rfl⟩
        go_wp2
        go_ret
        exact ⟨ret_int e.out.symm, hB0⟩
      · rw [if_neg k1] at HS1
        obtain ⟨z2, hz⟩ : ∃ z : Int, z = z1 - (((bn + upS (fun j => (bl.getD j zB).2.1) bn) : Nat) : Int) := ⟨_, rfl⟩
        rw [← hz] at HS1
        have g2 : 0 ≤ z2 := by omega
        have g2' : z2 ≤ 1048576 := by omega
        have HZ2 : Hid (z2 = l - nm.size - ((tn : Nat) : Int) - (((bn + upS (fun j => (bl.getD j zB).2.1) bn) : Nat) : Int)) := by have h1 := HZ1.out; show _ = _; omega
        clear hz
        refine (HS1.out _ H0.b).mono ?_
        rintro e w1 ⟨rfl, rfl⟩
        have ng1 : ¬ z2 < 0 := by omega
        go_wp2_with fail
        have HS2 := hide (fun w => szByteS_any da dn dc z2 w g2 g2' h.d.2.1)
        by_cases k2 : z2 < ((dn : Nat) : Int)
        · rw [if_pos k2] at HS2
          have e := hide (show r = -1 from by have h1 := HZ2.out; rw [HR.out, if_pos (by omega)])
          refine (HS2.out _).mono ?_
          rintro e w1 ⟨rfl, rfl⟩
          go_wp2
          go_ret
          exact ⟨ret_int e.out.symm, hB0⟩
        · rw [if_neg k2] at HS2
          obtain ⟨z3, hz⟩ : ∃ z : Int, z = z2 - ((dn : Nat) : Int) := ⟨_, rfl⟩
          rw [← hz] at HS2
          have g3 : 0 ≤ z3 := by omega
          have g3' : z3 ≤ 1048576 := by omega
          have HZ3 : Hid (z3 = l - nm.size - ((tn : Nat) : Int) - (((bn + upS (fun j => (bl.getD j zB).2.1) bn) : Nat) : Int) - ((dn : Nat) : Int)) := by have h1 := HZ2.out; show _ = _; omega
          clear hz
          refine (HS2.out _).mono ?_
          rintro e w1 ⟨rfl, rfl⟩
          have ng2 : ¬ z3 < 0 := by omega
          go_wp2_with fail
          have HS3 := hide (fun w => szIntS_any ra rn rc z3 w g3 g3' h.r.2.1)
          by_cases k3 : z3 < ((rn : Nat) : Int)
          · rw [if_pos k3] at HS3
            have e := hide (show r = -1 from by have h1 := HZ3.out; rw [HR.out, if_pos (by omega)])
            refine (HS3.out _).mono ?_
            rintro e w1 ⟨rfl, rfl⟩
            go_wp2
            go_ret
            exact ⟨ret_int e.out.symm, hB0⟩
          · rw [if_neg k3] at HS3
            obtain ⟨z4, hz⟩ : ∃ z : Int, z = z3 - ((rn : Nat) : Int) := ⟨_, rfl⟩
            rw [← hz] at HS3
            have g4 : 0 ≤ z4 := by omega
            have g4' : z4 ≤ 1048576 := by omega
            have HZ4 : Hid (z4 = l - nm.size - ((tn : Nat) : Int) - (((bn + upS (fun j => (bl.getD j zB).2.1) bn) : Nat) : Int) - ((dn : Nat) : Int) - ((rn : Nat) : Int)) := by have h1 := HZ3.out; show _ = _; omega
            clear hz
            refine (HS3.out _).mono ?_
            rintro e w1 ⟨rfl, rfl⟩
            have ng3 : ¬ z4 < 0 := by omega
            go_wp2_with fail
            have HS4 := hide (fun w hb => szStringS_any ia im ic ss z4 w hb g4 g4')
            unfold szR at HS4
            by_cases k4 : z4 < (((im + upS (fun j => (ss.getD j zS).size) im) : Nat) : Int)
            · rw [if_pos k4] at HS4
              have e := hide (show r = -1 from by have h1 := HZ4.out; rw [HR.out, if_pos (by omega)])
              refine (HS4.out _ H0.i).mono ?_
              rintro e w1 ⟨rfl, rfl⟩
              go_wp2
              go_ret
              exact ⟨ret_int e.out.symm, hB0⟩
            · rw [if_neg k4] at HS4
              obtain ⟨z5, hz⟩ : ∃ z : Int, z = z4 - (((im + upS (fun j => (ss.getD j zS).size) im) : Nat) : Int) := ⟨_, rfl⟩
              rw [← hz] at HS4
              have g5 : 0 ≤ z5 := by omega
              have g5' : z5 ≤ 1048576 := by omega
              have HZ5 : Hid (z5 = l - nm.size - ((tn : Nat) : Int) - (((bn + upS (fun j => (bl.getD j zB).2.1) bn) : Nat) : Int) - ((dn : Nat) : Int) - ((rn : Nat) : Int) - (((im + upS (fun j => (ss.getD j zS).size) im) : Nat) : Int)) := by have h1 := HZ4.out; show _ = _; omega
              clear hz
              refine (HS4.out _ H0.i).mono ?_
              rintro e w1 ⟨rfl, rfl⟩
              have ng4 : ¬ z5 < 0 := by omega
              go_wp2_with fail
              have HS5 := hide (fun w hb => szExportS_any ea en ec es z5 w hb g5 g5')
              unfold szR at HS5
              by_cases k5 : z5 < (((en + upS (fun j => (es.getD j zE).1.size) en) : Nat) : Int)
              · rw [if_pos k5] at HS5
                have e := hide (show r = -1 from by have h1 := HZ5.out; rw [HR.out, if_pos (by omega)])
                refine (HS5.out _ H0.e).mono ?_
                rintro e w1 ⟨rfl, hbE⟩
                go_wp2
                go_ret
                exact ⟨ret_int e.out.symm, hB0.trans (hbE.mono hB0.size)⟩
              · rw [if_neg k5] at HS5
                obtain ⟨z6, hz⟩ : ∃ z : Int, z = z5 - (((en + upS (fun j => (es.getD j zE).1.size) en) : Nat) : Int) := ⟨_, rfl⟩
                rw [← hz] at HS5
                have g6 : 0 ≤ z6 := by omega
                have g6' : z6 ≤ 1048576 := by omega
                have HZ6 : Hid (z6 = l - nm.size - ((tn : Nat) : Int) - (((bn + upS (fun j => (bl.getD j zB).2.1) bn) : Nat) : Int) - ((dn : Nat) : Int) - ((rn : Nat) : Int) - (((im + upS (fun j => (ss.getD j zS).size) im) : Nat) : Int) - (((en + upS (fun j => (es.getD j zE).1.size) en) : Nat) : Int)) := by have h1 := HZ5.out; show _ = _; omega
                clear hz
                refine (HS5.out _ H0.e).mono ?_
                rintro e w1 ⟨rfl, hbE⟩
                have ng5 : ¬ z6 < 0 := by omega
                have e := hide (show r = z6 from by have h1 := HZ6.out; rw [HR.out, if_neg (by omega)]; omega)
                go_wp2
                go_ret
                exact ⟨ret_int e.out.symm, hB0.trans (hbE.mono hB0.size)⟩
end Go.Proofs.Ytngdgogjlpjjpac
