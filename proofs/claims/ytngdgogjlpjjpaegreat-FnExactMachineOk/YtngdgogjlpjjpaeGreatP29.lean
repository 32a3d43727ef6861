import Derived.Test.YtngdgogjlpjjpaeGreatP18
import Derived.Test.YtngdgogjlpjjpaeGreatP19
import Derived.Test.YtngdgogjlpjjpaeGreatP14
import Derived.Test.YtngdgogjlpjjpaeGreatP16
import Derived.Test.YtngdgogjlpjjpaeGreatP22
import Derived.Test.YtngdgogjlpjjpaeGreatP28
namespace Go.Proofs.YtngdgogjlpjjpaeGreat
open Go.RowKit Classical
set_option linter.unusedVariables false
set_option linter.unusedSimpArgs false
set_option maxRecDepth 100000
set_option maxHeartbeats 8000000 in
theorem iLink_any (a : Option Addr) (n cap : Nat) (ms : List Md) (s c k d : Int) (w : World) (h : MSD w a n cap ms) :
    Calls Tryz.prog 76 #[.slice a n cap, .agg #[.int .i64 s, .int .i64 c, .int .i64 k, .int .i64 d]] w (LkM w (pmS ms) s c k d) := by
  have K0 := kin_new w s c k d
  have hl := h.s.1
  have hpl : (pmS ms).length = n := by rw [pmS_len, hl]
  have HH := hide h
  have HSND := hide (fun (W : World) (hb : Below w.heap.size w W) => linkFault_any a n cap ms s c k d W (h.below hb))
  obtain ⟨V, hV⟩ : ∃ V, V = snd4 (pmS ms) s c k d := ⟨_, rfl⟩
  rw [← hV] at HSND
  have HV := hide hV
  have HK := hide K0
  clear h K0 hV
  go_enter Tryz.func76, Tryz.ntmps76
  go_wp2_with fail
  refine (HSND.out _ HK.out.be).mono ?_
  rintro e w1 ⟨rfl, hb1⟩
  have S1 := HK.out.below hb1
  clear hb1 HK
  by_cases hV0 : V = 0
  · have hs4 := HV.out
    rw [hV0] at hs4
    obtain ⟨hcf, h4, hvl⟩ := snd4_parts hs4.symm
    obtain ⟨hs0, hs1, hc0, hc1, _⟩ := of_decide_eq_true hcf
    have HS4 := hide hs4.symm
    have HVL := hide hvl
    have HCF := hide hcf
    rw [hpl] at h4
    subst hV0
    have HTA := hide (targetsOf_any a n cap ms w1 (HH.out.below S1.be) hvl h4)
    have HS1 := hide S1
    clear hs4 hvl hcf S1
    go_wp2_with fail
    refine HTA.out.mono ?_
    rintro e w2 ⟨hb2, H2⟩
    have S2 := HS1.out.below hb2
    have hs1w := HS1.out.be.size
    rcases H2 with ⟨hno, v, rfl⟩ | ⟨hyes, f, rfl, TF, hfe⟩
    · have HP := hide (lkc_5 (d := d) (k := k) (w := c) (s := s) HS4.out hno)
      have HS := hide S2
      have p0 : w2.cell? ⟨w.heap.size + 1, 0, none⟩ = some (.slice none 0 0) := S2.k1.cell 0
      have p1 : w2.cell? ⟨w.heap.size + 1, 1, none⟩ = some (.int .i64 0) := S2.k1.cell 1
      have p2 : w2.cell? ⟨w.heap.size + 1, 2, none⟩ = some (.slice none 0 0) := S2.k1.cell 2
      have p3 : w2.cell? ⟨w.heap.size + 1, 3, none⟩ = some (.int .i64 0) := S2.k1.cell 3
      have p4 : w2.cell? ⟨w.heap.size + 1, 4, none⟩ = some (.int .i64 0) := S2.k1.cell 4
      have p5 : w2.cell? ⟨w.heap.size + 1, 5, none⟩ = some (.slice none 0 0) := S2.k1.cell 5
      have y0 : w2.frozen? ⟨w.heap.size + 1, 0, none⟩ = false := S2.k1.frozen 0
      have y1 : w2.frozen? ⟨w.heap.size + 1, 1, none⟩ = false := S2.k1.frozen 1
      have y2 : w2.frozen? ⟨w.heap.size + 1, 2, none⟩ = false := S2.k1.frozen 2
      have y3 : w2.frozen? ⟨w.heap.size + 1, 3, none⟩ = false := S2.k1.frozen 3
      have y4 : w2.frozen? ⟨w.heap.size + 1, 4, none⟩ = false := S2.k1.frozen 4
      have y5 : w2.frozen? ⟨w.heap.size + 1, 5, none⟩ = false := S2.k1.frozen 5
      clear S2 hno hb2 HTA HS1
      go_wp2
      exact link_noI HS.out HP.out (by decide) _ rfl rfl
    · have HI := hide hyes
      have HFE := hide hfe
      obtain ⟨gt, hgt0⟩ : ∃ gt, gt = w1.heap.size := ⟨_, rfl⟩
      rw [← hgt0] at TF hs1w ⊢
      have HTF0 := hide TF
      have HS2 := hide S2
      have c0 : w2.cell? ⟨w.heap.size, 0, none⟩ = some (.int .i64 s) := S2.k0.cell 0
      have c1 : w2.cell? ⟨w.heap.size, 1, none⟩ = some (.int .i64 c) := S2.k0.cell 1
      have c2 : w2.cell? ⟨w.heap.size, 2, none⟩ = some (.int .i64 k) := S2.k0.cell 2
      have c3 : w2.cell? ⟨w.heap.size, 3, none⟩ = some (.int .i64 d) := S2.k0.cell 3
      clear hyes hfe TF S2 hb2 HTA HS1 hgt0
      by_cases hsz : s = 0
      · subst hsz
        have HN6 := hide (show ¬ ((0 : Int) < 0 ∧ ¬ shrt (pmS ms) c) from fun e => absurd e.1 (by omega))
        go_wp2_with fail
        go_quiet (fail)
        have HS : Hid (Kin w (w2.drewN nq) 0 c k d) := hide ⟨below_dN HS2.out.be nq, HS2.out.k0, HS2.out.k1⟩
        have HTF : Hid (Tf (w2.drewN nq) gt gt n f) := hide ⟨HTF0.out.head, HTF0.out.rows, HTF0.out.apart⟩
        clear HS2 HTF0 c0 c1 c2 c3
        generalize w2.drewN nq = w3 at *
        have HLA := hide (layOut_any a n cap ms 0 c k d w3 (HH.out.below HS.out.be) h4 HCF.out HVL.out)
        have c0 : w3.cell? ⟨w.heap.size, 0, none⟩ = some (.int .i64 0) := HS.out.k0.cell 0
        have c1 : w3.cell? ⟨w.heap.size, 1, none⟩ = some (.int .i64 c) := HS.out.k0.cell 1
        have c2 : w3.cell? ⟨w.heap.size, 2, none⟩ = some (.int .i64 k) := HS.out.k0.cell 2
        have c3 : w3.cell? ⟨w.heap.size, 3, none⟩ = some (.int .i64 d) := HS.out.k0.cell 3
        go_wp2_with fail
        refine HLA.out.mono ?_
        rintro e w4 ⟨hb4, a0, d0, xs, a2, d2, rfl, LO⟩
        have S4 := HS.out.below hb4
        have TF4 := HTF.out.below hb4
        obtain ⟨L, hL⟩ : ∃ L, L = lay (pmS ms) 0 c k := ⟨_, rfl⟩
        rw [← hL] at LO ⊢
        have HLL := hide hL
        have al : Below w4.heap.size w4 (w4.alloc (.cells #[.slice a0 xs.length d0, .int .i64 L.stack, .slice a2 L.slots.length d2, .int .i64 L.flash, .int .i64 L.ram, .slice none 0 0] 36)) := (Below.refl _ _).alloc (Nat.le_refl _) _
        have kL := Blk.new w4 #[.slice a0 xs.length d0, .int .i64 L.stack, .slice a2 L.slots.length d2, .int .i64 L.flash, .int .i64 L.ram, .slice none 0 0] 36
        have S5 := S4.below al
        have TF5 := TF4.below al
        have hs34 := hb4.size
        have hs3 := HS.out.k1.lt
        have hgt := HTF.out.lt.1
        have LO5 : LayO (w4.alloc (.cells #[.slice a0 xs.length d0, .int .i64 L.stack, .slice a2 L.slots.length d2, .int .i64 L.flash, .int .i64 L.ram, .slice none 0 0] 36)) w3.heap.size ⟨L.places, L.stack, L.slots, L.flash, L.ram, []⟩ a0 d0 xs a2 d2 none 0 [] := ⟨LO.p.below al, LO.ps, LO.s.below al, LO.t.below al, LO.tt, LO.sp⟩
        have alM : Below w4.heap.size w4 (w4.alloc (.cells #[.slice a0 xs.length d0, .int .i64 L.stack, .slice a2 L.slots.length d2, .int .i64 L.flash, .int .i64 L.ram, .slice (some ⟨gt, 0, none⟩) n n] 36)) := (Below.refl _ _).alloc (Nat.le_refl _) _
        have kM := Blk.new w4 #[.slice a0 xs.length d0, .int .i64 L.stack, .slice a2 L.slots.length d2, .int .i64 L.flash, .int .i64 L.ram, .slice (some ⟨gt, 0, none⟩) n n] 36
        have S6 := S4.below alM
        have TF6 := TF4.below alM
        have LO6 : LayO (w4.alloc (.cells #[.slice a0 xs.length d0, .int .i64 L.stack, .slice a2 L.slots.length d2, .int .i64 L.flash, .int .i64 L.ram, .slice (some ⟨gt, 0, none⟩) n n] 36)) w3.heap.size ⟨L.places, L.stack, L.slots, L.flash, L.ram, []⟩ a0 d0 xs a2 d2 none 0 [] := ⟨LO.p.below alM, LO.ps, LO.s.below alM, LO.t.below alM, LO.tt, LO.sp⟩
        have l0 : (w4.alloc (.cells #[.slice a0 xs.length d0, .int .i64 L.stack, .slice a2 L.slots.length d2, .int .i64 L.flash, .int .i64 L.ram, .slice none 0 0] 36)).cell? ⟨w4.heap.size, 0, none⟩ = some (.slice a0 xs.length d0) := kL.cell 0
        have l1 : (w4.alloc (.cells #[.slice a0 xs.length d0, .int .i64 L.stack, .slice a2 L.slots.length d2, .int .i64 L.flash, .int .i64 L.ram, .slice none 0 0] 36)).cell? ⟨w4.heap.size, 1, none⟩ = some (.int .i64 L.stack) := kL.cell 1
        have l2 : (w4.alloc (.cells #[.slice a0 xs.length d0, .int .i64 L.stack, .slice a2 L.slots.length d2, .int .i64 L.flash, .int .i64 L.ram, .slice none 0 0] 36)).cell? ⟨w4.heap.size, 2, none⟩ = some (.slice a2 L.slots.length d2) := kL.cell 2
        have l3 : (w4.alloc (.cells #[.slice a0 xs.length d0, .int .i64 L.stack, .slice a2 L.slots.length d2, .int .i64 L.flash, .int .i64 L.ram, .slice none 0 0] 36)).cell? ⟨w4.heap.size, 3, none⟩ = some (.int .i64 L.flash) := kL.cell 3
        have l4 : (w4.alloc (.cells #[.slice a0 xs.length d0, .int .i64 L.stack, .slice a2 L.slots.length d2, .int .i64 L.flash, .int .i64 L.ram, .slice none 0 0] 36)).cell? ⟨w4.heap.size, 4, none⟩ = some (.int .i64 L.ram) := kL.cell 4
        have l5 : (w4.alloc (.cells #[.slice a0 xs.length d0, .int .i64 L.stack, .slice a2 L.slots.length d2, .int .i64 L.flash, .int .i64 L.ram, .slice none 0 0] 36)).cell? ⟨w4.heap.size, 5, none⟩ = some (.slice none 0 0) := kL.cell 5
        have n5 := kL.frozen 5
        have HKL := hide kM
        have m0 : (w4.alloc (.cells #[.slice a0 xs.length d0, .int .i64 L.stack, .slice a2 L.slots.length d2, .int .i64 L.flash, .int .i64 L.ram, .slice (some ⟨gt, 0, none⟩) n n] 36)).cell? ⟨w4.heap.size, 0, none⟩ = some (.slice a0 xs.length d0) := kM.cell 0
        have m1 : (w4.alloc (.cells #[.slice a0 xs.length d0, .int .i64 L.stack, .slice a2 L.slots.length d2, .int .i64 L.flash, .int .i64 L.ram, .slice (some ⟨gt, 0, none⟩) n n] 36)).cell? ⟨w4.heap.size, 1, none⟩ = some (.int .i64 L.stack) := kM.cell 1
        have m2 : (w4.alloc (.cells #[.slice a0 xs.length d0, .int .i64 L.stack, .slice a2 L.slots.length d2, .int .i64 L.flash, .int .i64 L.ram, .slice (some ⟨gt, 0, none⟩) n n] 36)).cell? ⟨w4.heap.size, 2, none⟩ = some (.slice a2 L.slots.length d2) := kM.cell 2
        have m3 : (w4.alloc (.cells #[.slice a0 xs.length d0, .int .i64 L.stack, .slice a2 L.slots.length d2, .int .i64 L.flash, .int .i64 L.ram, .slice (some ⟨gt, 0, none⟩) n n] 36)).cell? ⟨w4.heap.size, 3, none⟩ = some (.int .i64 L.flash) := kM.cell 3
        have m4 : (w4.alloc (.cells #[.slice a0 xs.length d0, .int .i64 L.stack, .slice a2 L.slots.length d2, .int .i64 L.flash, .int .i64 L.ram, .slice (some ⟨gt, 0, none⟩) n n] 36)).cell? ⟨w4.heap.size, 4, none⟩ = some (.int .i64 L.ram) := kM.cell 4
        have m5 : (w4.alloc (.cells #[.slice a0 xs.length d0, .int .i64 L.stack, .slice a2 L.slots.length d2, .int .i64 L.flash, .int .i64 L.ram, .slice (some ⟨gt, 0, none⟩) n n] 36)).cell? ⟨w4.heap.size, 5, none⟩ = some (.slice (some ⟨gt, 0, none⟩) n n) := kM.cell 5
        have HS5 := hide (And.intro S5 (And.intro LO6 (And.intro TF6 S6)))
        clear hb4 S4 TF4 LO al kL hL HS HTF HLA c0 c1 c2 c3 alM kM TF5 LO5
        unfold layV
        by_cases h7 : 16384 < L.flash
        · have HP := hide (lkc_7 (d := d) HS4.out HI.out HN6.out (by rw [← HLL.out]; exact h7))
          have p0 : (w4.alloc (.cells #[.slice a0 xs.length d0, .int .i64 L.stack, .slice a2 L.slots.length d2, .int .i64 L.flash, .int .i64 L.ram, .slice none 0 0] 36)).cell? ⟨w.heap.size + 1, 0, none⟩ = some (.slice none 0 0) := S5.k1.cell 0
          have p1 : (w4.alloc (.cells #[.slice a0 xs.length d0, .int .i64 L.stack, .slice a2 L.slots.length d2, .int .i64 L.flash, .int .i64 L.ram, .slice none 0 0] 36)).cell? ⟨w.heap.size + 1, 1, none⟩ = some (.int .i64 0) := S5.k1.cell 1
          have p2 : (w4.alloc (.cells #[.slice a0 xs.length d0, .int .i64 L.stack, .slice a2 L.slots.length d2, .int .i64 L.flash, .int .i64 L.ram, .slice none 0 0] 36)).cell? ⟨w.heap.size + 1, 2, none⟩ = some (.slice none 0 0) := S5.k1.cell 2
          have p3 : (w4.alloc (.cells #[.slice a0 xs.length d0, .int .i64 L.stack, .slice a2 L.slots.length d2, .int .i64 L.flash, .int .i64 L.ram, .slice none 0 0] 36)).cell? ⟨w.heap.size + 1, 3, none⟩ = some (.int .i64 0) := S5.k1.cell 3
          have p4 : (w4.alloc (.cells #[.slice a0 xs.length d0, .int .i64 L.stack, .slice a2 L.slots.length d2, .int .i64 L.flash, .int .i64 L.ram, .slice none 0 0] 36)).cell? ⟨w.heap.size + 1, 4, none⟩ = some (.int .i64 0) := S5.k1.cell 4
          have p5 : (w4.alloc (.cells #[.slice a0 xs.length d0, .int .i64 L.stack, .slice a2 L.slots.length d2, .int .i64 L.flash, .int .i64 L.ram, .slice none 0 0] 36)).cell? ⟨w.heap.size + 1, 5, none⟩ = some (.slice none 0 0) := S5.k1.cell 5
          have y0 : (w4.alloc (.cells #[.slice a0 xs.length d0, .int .i64 L.stack, .slice a2 L.slots.length d2, .int .i64 L.flash, .int .i64 L.ram, .slice none 0 0] 36)).frozen? ⟨w.heap.size + 1, 0, none⟩ = false := S5.k1.frozen 0
          have y1 : (w4.alloc (.cells #[.slice a0 xs.length d0, .int .i64 L.stack, .slice a2 L.slots.length d2, .int .i64 L.flash, .int .i64 L.ram, .slice none 0 0] 36)).frozen? ⟨w.heap.size + 1, 1, none⟩ = false := S5.k1.frozen 1
          have y2 : (w4.alloc (.cells #[.slice a0 xs.length d0, .int .i64 L.stack, .slice a2 L.slots.length d2, .int .i64 L.flash, .int .i64 L.ram, .slice none 0 0] 36)).frozen? ⟨w.heap.size + 1, 2, none⟩ = false := S5.k1.frozen 2
          have y3 : (w4.alloc (.cells #[.slice a0 xs.length d0, .int .i64 L.stack, .slice a2 L.slots.length d2, .int .i64 L.flash, .int .i64 L.ram, .slice none 0 0] 36)).frozen? ⟨w.heap.size + 1, 3, none⟩ = false := S5.k1.frozen 3
          have y4 : (w4.alloc (.cells #[.slice a0 xs.length d0, .int .i64 L.stack, .slice a2 L.slots.length d2, .int .i64 L.flash, .int .i64 L.ram, .slice none 0 0] 36)).frozen? ⟨w.heap.size + 1, 4, none⟩ = false := S5.k1.frozen 4
          have y5 : (w4.alloc (.cells #[.slice a0 xs.length d0, .int .i64 L.stack, .slice a2 L.slots.length d2, .int .i64 L.flash, .int .i64 L.ram, .slice none 0 0] 36)).frozen? ⟨w.heap.size + 1, 5, none⟩ = false := S5.k1.frozen 5
          clear S5 S6 LO6 TF6
          go_wp2
          exact link_noI HS5.out.1 HP.out (by decide) _ rfl rfl
        · have h7' : ¬ 16384 < L.flash := h7
          by_cases h8 : 16384 < L.ram
          · have HP := hide (lkc_8 (d := d) HS4.out HI.out HN6.out (by rw [← HLL.out]; exact h7) (by rw [← HLL.out]; exact h8))
            have p0 : (w4.alloc (.cells #[.slice a0 xs.length d0, .int .i64 L.stack, .slice a2 L.slots.length d2, .int .i64 L.flash, .int .i64 L.ram, .slice none 0 0] 36)).cell? ⟨w.heap.size + 1, 0, none⟩ = some (.slice none 0 0) := S5.k1.cell 0
            have p1 : (w4.alloc (.cells #[.slice a0 xs.length d0, .int .i64 L.stack, .slice a2 L.slots.length d2, .int .i64 L.flash, .int .i64 L.ram, .slice none 0 0] 36)).cell? ⟨w.heap.size + 1, 1, none⟩ = some (.int .i64 0) := S5.k1.cell 1
            have p2 : (w4.alloc (.cells #[.slice a0 xs.length d0, .int .i64 L.stack, .slice a2 L.slots.length d2, .int .i64 L.flash, .int .i64 L.ram, .slice none 0 0] 36)).cell? ⟨w.heap.size + 1, 2, none⟩ = some (.slice none 0 0) := S5.k1.cell 2
            have p3 : (w4.alloc (.cells #[.slice a0 xs.length d0, .int .i64 L.stack, .slice a2 L.slots.length d2, .int .i64 L.flash, .int .i64 L.ram, .slice none 0 0] 36)).cell? ⟨w.heap.size + 1, 3, none⟩ = some (.int .i64 0) := S5.k1.cell 3
            have p4 : (w4.alloc (.cells #[.slice a0 xs.length d0, .int .i64 L.stack, .slice a2 L.slots.length d2, .int .i64 L.flash, .int .i64 L.ram, .slice none 0 0] 36)).cell? ⟨w.heap.size + 1, 4, none⟩ = some (.int .i64 0) := S5.k1.cell 4
            have p5 : (w4.alloc (.cells #[.slice a0 xs.length d0, .int .i64 L.stack, .slice a2 L.slots.length d2, .int .i64 L.flash, .int .i64 L.ram, .slice none 0 0] 36)).cell? ⟨w.heap.size + 1, 5, none⟩ = some (.slice none 0 0) := S5.k1.cell 5
            have y0 : (w4.alloc (.cells #[.slice a0 xs.length d0, .int .i64 L.stack, .slice a2 L.slots.length d2, .int .i64 L.flash, .int .i64 L.ram, .slice none 0 0] 36)).frozen? ⟨w.heap.size + 1, 0, none⟩ = false := S5.k1.frozen 0
            have y1 : (w4.alloc (.cells #[.slice a0 xs.length d0, .int .i64 L.stack, .slice a2 L.slots.length d2, .int .i64 L.flash, .int .i64 L.ram, .slice none 0 0] 36)).frozen? ⟨w.heap.size + 1, 1, none⟩ = false := S5.k1.frozen 1
            have y2 : (w4.alloc (.cells #[.slice a0 xs.length d0, .int .i64 L.stack, .slice a2 L.slots.length d2, .int .i64 L.flash, .int .i64 L.ram, .slice none 0 0] 36)).frozen? ⟨w.heap.size + 1, 2, none⟩ = false := S5.k1.frozen 2
            have y3 : (w4.alloc (.cells #[.slice a0 xs.length d0, .int .i64 L.stack, .slice a2 L.slots.length d2, .int .i64 L.flash, .int .i64 L.ram, .slice none 0 0] 36)).frozen? ⟨w.heap.size + 1, 3, none⟩ = false := S5.k1.frozen 3
            have y4 : (w4.alloc (.cells #[.slice a0 xs.length d0, .int .i64 L.stack, .slice a2 L.slots.length d2, .int .i64 L.flash, .int .i64 L.ram, .slice none 0 0] 36)).frozen? ⟨w.heap.size + 1, 4, none⟩ = false := S5.k1.frozen 4
            have y5 : (w4.alloc (.cells #[.slice a0 xs.length d0, .int .i64 L.stack, .slice a2 L.slots.length d2, .int .i64 L.flash, .int .i64 L.ram, .slice none 0 0] 36)).frozen? ⟨w.heap.size + 1, 5, none⟩ = false := S5.k1.frozen 5
            clear S5 S6 LO6 TF6
            go_wp2
            exact link_noI HS5.out.1 HP.out (by decide) _ rfl rfl
          · have HP := hide (lkc_0 (d := d) HS4.out HI.out HN6.out (by rw [← HLL.out]; exact h7) (by rw [← HLL.out]; exact h8))
            have p0 : (w4.alloc (.cells #[.slice a0 xs.length d0, .int .i64 L.stack, .slice a2 L.slots.length d2, .int .i64 L.flash, .int .i64 L.ram, .slice (some ⟨gt, 0, none⟩) n n] 36)).cell? ⟨w.heap.size + 1, 0, none⟩ = some (.slice none 0 0) := S6.k1.cell 0
            have p1 : (w4.alloc (.cells #[.slice a0 xs.length d0, .int .i64 L.stack, .slice a2 L.slots.length d2, .int .i64 L.flash, .int .i64 L.ram, .slice (some ⟨gt, 0, none⟩) n n] 36)).cell? ⟨w.heap.size + 1, 1, none⟩ = some (.int .i64 0) := S6.k1.cell 1
            have p2 : (w4.alloc (.cells #[.slice a0 xs.length d0, .int .i64 L.stack, .slice a2 L.slots.length d2, .int .i64 L.flash, .int .i64 L.ram, .slice (some ⟨gt, 0, none⟩) n n] 36)).cell? ⟨w.heap.size + 1, 2, none⟩ = some (.slice none 0 0) := S6.k1.cell 2
            have p3 : (w4.alloc (.cells #[.slice a0 xs.length d0, .int .i64 L.stack, .slice a2 L.slots.length d2, .int .i64 L.flash, .int .i64 L.ram, .slice (some ⟨gt, 0, none⟩) n n] 36)).cell? ⟨w.heap.size + 1, 3, none⟩ = some (.int .i64 0) := S6.k1.cell 3
            have p4 : (w4.alloc (.cells #[.slice a0 xs.length d0, .int .i64 L.stack, .slice a2 L.slots.length d2, .int .i64 L.flash, .int .i64 L.ram, .slice (some ⟨gt, 0, none⟩) n n] 36)).cell? ⟨w.heap.size + 1, 4, none⟩ = some (.int .i64 0) := S6.k1.cell 4
            have p5 : (w4.alloc (.cells #[.slice a0 xs.length d0, .int .i64 L.stack, .slice a2 L.slots.length d2, .int .i64 L.flash, .int .i64 L.ram, .slice (some ⟨gt, 0, none⟩) n n] 36)).cell? ⟨w.heap.size + 1, 5, none⟩ = some (.slice none 0 0) := S6.k1.cell 5
            have y0 : (w4.alloc (.cells #[.slice a0 xs.length d0, .int .i64 L.stack, .slice a2 L.slots.length d2, .int .i64 L.flash, .int .i64 L.ram, .slice (some ⟨gt, 0, none⟩) n n] 36)).frozen? ⟨w.heap.size + 1, 0, none⟩ = false := S6.k1.frozen 0
            have y1 : (w4.alloc (.cells #[.slice a0 xs.length d0, .int .i64 L.stack, .slice a2 L.slots.length d2, .int .i64 L.flash, .int .i64 L.ram, .slice (some ⟨gt, 0, none⟩) n n] 36)).frozen? ⟨w.heap.size + 1, 1, none⟩ = false := S6.k1.frozen 1
            have y2 : (w4.alloc (.cells #[.slice a0 xs.length d0, .int .i64 L.stack, .slice a2 L.slots.length d2, .int .i64 L.flash, .int .i64 L.ram, .slice (some ⟨gt, 0, none⟩) n n] 36)).frozen? ⟨w.heap.size + 1, 2, none⟩ = false := S6.k1.frozen 2
            have y3 : (w4.alloc (.cells #[.slice a0 xs.length d0, .int .i64 L.stack, .slice a2 L.slots.length d2, .int .i64 L.flash, .int .i64 L.ram, .slice (some ⟨gt, 0, none⟩) n n] 36)).frozen? ⟨w.heap.size + 1, 3, none⟩ = false := S6.k1.frozen 3
            have y4 : (w4.alloc (.cells #[.slice a0 xs.length d0, .int .i64 L.stack, .slice a2 L.slots.length d2, .int .i64 L.flash, .int .i64 L.ram, .slice (some ⟨gt, 0, none⟩) n n] 36)).frozen? ⟨w.heap.size + 1, 4, none⟩ = false := S6.k1.frozen 4
            have y5 : (w4.alloc (.cells #[.slice a0 xs.length d0, .int .i64 L.stack, .slice a2 L.slots.length d2, .int .i64 L.flash, .int .i64 L.ram, .slice (some ⟨gt, 0, none⟩) n n] 36)).frozen? ⟨w.heap.size + 1, 5, none⟩ = false := S6.k1.frozen 5
            clear S5 S6 LO6 TF6
            go_wp2
            refine link_endI HS5.out.2.2.2.k1 _ _ _ _ _ _ 0 _ _ rfl rfl ?_
            obtain ⟨S5, LO5, TF5, S6⟩ := HS5.out
            have t := turn_st6 (w4.alloc (.cells #[.slice a0 xs.length d0, .int .i64 L.stack, .slice a2 L.slots.length d2, .int .i64 L.flash, .int .i64 L.ram, .slice (some ⟨gt, 0, none⟩) n n] 36)) (w.heap.size + 1) (.slice a0 xs.length d0) (.int .i64 L.stack) (.slice a2 L.slots.length d2) (.int .i64 L.flash) (.int .i64 L.ram) (.slice (some ⟨gt, 0, none⟩) n n)
            have OT := TF5.otg (c := n) (Nat.le_refl _) (by unfold maxLen; omega) rfl
            have key : ∀ (base sz nn : Nat) (ty : TypeId) (v : Value) (ys : List Value), (w4.alloc (.cells #[.slice a0 xs.length d0, .int .i64 L.stack, .slice a2 L.slots.length d2, .int .i64 L.flash, .int .i64 L.ram, .slice (some ⟨gt, 0, none⟩) n n] 36)).ownsRow base ty sz v nn ys → ty ≠ 36 → ∀ j, v.ownBlock = some j → ¬ (fun j => j = w.heap.size + 1) j := fun base sz nn ty v ys ho hne j hj e => by
              have e' : j = w.heap.size + 1 := e
              subst e'
              exact kind_no ho hj S6.k1 hne
            refine ⟨below_turn S6.be (turn_st6 _ _ _ _ _ _ _ _) (fun j hj => by have e : j = w.heap.size + 1 := hj; omega) S6.be.size, a0, d0, xs, a2, d2, some ⟨gt, 0, none⟩, n, (List.range n).map f, ?_, ?_⟩
            · unfold lkL layV; rw [if_pos HP.out, HP.out, ← HLL.out]; simp
            · unfold lkL; rw [if_pos HP.out, ← HLL.out]
              exact ⟨(LO5.p.kept t (key _ _ _ _ _ _ LO5.p.head (by decide)) (fun x hx => key _ _ _ _ _ _ (LO5.p.rows x hx) (by decide))).mono (by omega) (by omega), LO5.ps, (LO5.s.kept t (key _ _ _ _ _ _ LO5.s (by decide))).mono (by omega), (OT.kept t (key _ _ _ _ _ _ OT.head (by decide)) (fun x hx => key _ _ _ _ _ _ (OT.rows x hx) (by decide))).mono (by omega) (by omega), by rw [HLL.out]; unfold lay; rw [hpl, List.map_map]; exact List.map_congr_left (fun i hi => HFE.out i (by simpa using hi)), LO5.sp⟩
      · have hsn : (s != 0) = true := by simp [hsz]
        have HGB := hide (fun (W : World) (hb : Below w.heap.size w W) => greatestBank_any a n cap ms W (HH.out.below hb) HVL.out h4)
        go_wp2_with fail
        go_region_law (first
          | (go_simp; go_at_call 169; refine (HGB.out _ (by first | exact HS2.out.be | exact HS2.out.drew.be)).mono ?_; rintro e wa ⟨R, rfl, hG, hba⟩; have HSA := hide (show Kin w wa s c k d from (by first | exact HS2.out.below hba | exact HS2.out.drew.below hba)); have HTB := hide (show Tf wa gt gt n f from (by first | exact HTF0.out.below hba | exact Tf.below (w := w2.drew) ⟨HTF0.out.head, HTF0.out.rows, HTF0.out.apart⟩ hba)); have e1 : wa.cell? ⟨w.heap.size, 1, none⟩ = some (.int .i64 c) := HSA.out.k0.cell 1; have HG := hide hG; clear hba hG))
        all_goals
          have HS := HSA
          have HTF := HTB
          clear HS2 HTF0 c0 c1 c2 c3 HSA HTB e1 HGB
          generalize wa = w3 at *
          by_cases h6 : c < (R : Int)
          · have HP := hide (lkc_6 (d := d) (k := k) HS4.out HI.out ⟨by omega, (gb_shrt HG.out c hc0).1 h6⟩)
            have S3 := HS.out
            have p0 : w3.cell? ⟨w.heap.size + 1, 0, none⟩ = some (.slice none 0 0) := S3.k1.cell 0
            have p1 : w3.cell? ⟨w.heap.size + 1, 1, none⟩ = some (.int .i64 0) := S3.k1.cell 1
            have p2 : w3.cell? ⟨w.heap.size + 1, 2, none⟩ = some (.slice none 0 0) := S3.k1.cell 2
            have p3 : w3.cell? ⟨w.heap.size + 1, 3, none⟩ = some (.int .i64 0) := S3.k1.cell 3
            have p4 : w3.cell? ⟨w.heap.size + 1, 4, none⟩ = some (.int .i64 0) := S3.k1.cell 4
            have p5 : w3.cell? ⟨w.heap.size + 1, 5, none⟩ = some (.slice none 0 0) := S3.k1.cell 5
            have y0 : w3.frozen? ⟨w.heap.size + 1, 0, none⟩ = false := S3.k1.frozen 0
            have y1 : w3.frozen? ⟨w.heap.size + 1, 1, none⟩ = false := S3.k1.frozen 1
            have y2 : w3.frozen? ⟨w.heap.size + 1, 2, none⟩ = false := S3.k1.frozen 2
            have y3 : w3.frozen? ⟨w.heap.size + 1, 3, none⟩ = false := S3.k1.frozen 3
            have y4 : w3.frozen? ⟨w.heap.size + 1, 4, none⟩ = false := S3.k1.frozen 4
            have y5 : w3.frozen? ⟨w.heap.size + 1, 5, none⟩ = false := S3.k1.frozen 5
            clear S3
            go_wp2
            exact link_noI HS.out HP.out (by decide) _ rfl rfl
          · have HN6 := hide (show ¬ (0 < s ∧ ¬ shrt (pmS ms) c) from fun e => h6 ((gb_shrt HG.out c hc0).2 e.2))
            have h6' : ¬ c < (R : Int) := h6
            have HLA := hide (layOut_any a n cap ms s c k d w3 (HH.out.below HS.out.be) h4 HCF.out HVL.out)
            have c0 : w3.cell? ⟨w.heap.size, 0, none⟩ = some (.int .i64 s) := HS.out.k0.cell 0
            have c1 : w3.cell? ⟨w.heap.size, 1, none⟩ = some (.int .i64 c) := HS.out.k0.cell 1
            have c2 : w3.cell? ⟨w.heap.size, 2, none⟩ = some (.int .i64 k) := HS.out.k0.cell 2
            have c3 : w3.cell? ⟨w.heap.size, 3, none⟩ = some (.int .i64 d) := HS.out.k0.cell 3
            go_wp2_with fail
            refine HLA.out.mono ?_
            rintro e w4 ⟨hb4, a0, d0, xs, a2, d2, rfl, LO⟩
            have S4 := HS.out.below hb4
            have TF4 := HTF.out.below hb4
            obtain ⟨L, hL⟩ : ∃ L, L = lay (pmS ms) s c k := ⟨_, rfl⟩
            rw [← hL] at LO ⊢
            have HLL := hide hL
            have al : Below w4.heap.size w4 (w4.alloc (.cells #[.slice a0 xs.length d0, .int .i64 L.stack, .slice a2 L.slots.length d2, .int .i64 L.flash, .int .i64 L.ram, .slice none 0 0] 36)) := (Below.refl _ _).alloc (Nat.le_refl _) _
            have kL := Blk.new w4 #[.slice a0 xs.length d0, .int .i64 L.stack, .slice a2 L.slots.length d2, .int .i64 L.flash, .int .i64 L.ram, .slice none 0 0] 36
            have S5 := S4.below al
            have TF5 := TF4.below al
            have hs34 := hb4.size
            have hs3 := HS.out.k1.lt
            have hgt := HTF.out.lt.1
            have LO5 : LayO (w4.alloc (.cells #[.slice a0 xs.length d0, .int .i64 L.stack, .slice a2 L.slots.length d2, .int .i64 L.flash, .int .i64 L.ram, .slice none 0 0] 36)) w3.heap.size ⟨L.places, L.stack, L.slots, L.flash, L.ram, []⟩ a0 d0 xs a2 d2 none 0 [] := ⟨LO.p.below al, LO.ps, LO.s.below al, LO.t.below al, LO.tt, LO.sp⟩
            have alM : Below w4.heap.size w4 (w4.alloc (.cells #[.slice a0 xs.length d0, .int .i64 L.stack, .slice a2 L.slots.length d2, .int .i64 L.flash, .int .i64 L.ram, .slice (some ⟨gt, 0, none⟩) n n] 36)) := (Below.refl _ _).alloc (Nat.le_refl _) _
            have kM := Blk.new w4 #[.slice a0 xs.length d0, .int .i64 L.stack, .slice a2 L.slots.length d2, .int .i64 L.flash, .int .i64 L.ram, .slice (some ⟨gt, 0, none⟩) n n] 36
            have S6 := S4.below alM
            have TF6 := TF4.below alM
            have LO6 : LayO (w4.alloc (.cells #[.slice a0 xs.length d0, .int .i64 L.stack, .slice a2 L.slots.length d2, .int .i64 L.flash, .int .i64 L.ram, .slice (some ⟨gt, 0, none⟩) n n] 36)) w3.heap.size ⟨L.places, L.stack, L.slots, L.flash, L.ram, []⟩ a0 d0 xs a2 d2 none 0 [] := ⟨LO.p.below alM, LO.ps, LO.s.below alM, LO.t.below alM, LO.tt, LO.sp⟩
            have l0 : (w4.alloc (.cells #[.slice a0 xs.length d0, .int .i64 L.stack, .slice a2 L.slots.length d2, .int .i64 L.flash, .int .i64 L.ram, .slice none 0 0] 36)).cell? ⟨w4.heap.size, 0, none⟩ = some (.slice a0 xs.length d0) := kL.cell 0
            have l1 : (w4.alloc (.cells #[.slice a0 xs.length d0, .int .i64 L.stack, .slice a2 L.slots.length d2, .int .i64 L.flash, .int .i64 L.ram, .slice none 0 0] 36)).cell? ⟨w4.heap.size, 1, none⟩ = some (.int .i64 L.stack) := kL.cell 1
            have l2 : (w4.alloc (.cells #[.slice a0 xs.length d0, .int .i64 L.stack, .slice a2 L.slots.length d2, .int .i64 L.flash, .int .i64 L.ram, .slice none 0 0] 36)).cell? ⟨w4.heap.size, 2, none⟩ = some (.slice a2 L.slots.length d2) := kL.cell 2
            have l3 : (w4.alloc (.cells #[.slice a0 xs.length d0, .int .i64 L.stack, .slice a2 L.slots.length d2, .int .i64 L.flash, .int .i64 L.ram, .slice none 0 0] 36)).cell? ⟨w4.heap.size, 3, none⟩ = some (.int .i64 L.flash) := kL.cell 3
            have l4 : (w4.alloc (.cells #[.slice a0 xs.length d0, .int .i64 L.stack, .slice a2 L.slots.length d2, .int .i64 L.flash, .int .i64 L.ram, .slice none 0 0] 36)).cell? ⟨w4.heap.size, 4, none⟩ = some (.int .i64 L.ram) := kL.cell 4
            have l5 : (w4.alloc (.cells #[.slice a0 xs.length d0, .int .i64 L.stack, .slice a2 L.slots.length d2, .int .i64 L.flash, .int .i64 L.ram, .slice none 0 0] 36)).cell? ⟨w4.heap.size, 5, none⟩ = some (.slice none 0 0) := kL.cell 5
            have n5 := kL.frozen 5
            have HKL := hide kM
            have m0 : (w4.alloc (.cells #[.slice a0 xs.length d0, .int .i64 L.stack, .slice a2 L.slots.length d2, .int .i64 L.flash, .int .i64 L.ram, .slice (some ⟨gt, 0, none⟩) n n] 36)).cell? ⟨w4.heap.size, 0, none⟩ = some (.slice a0 xs.length d0) := kM.cell 0
            have m1 : (w4.alloc (.cells #[.slice a0 xs.length d0, .int .i64 L.stack, .slice a2 L.slots.length d2, .int .i64 L.flash, .int .i64 L.ram, .slice (some ⟨gt, 0, none⟩) n n] 36)).cell? ⟨w4.heap.size, 1, none⟩ = some (.int .i64 L.stack) := kM.cell 1
            have m2 : (w4.alloc (.cells #[.slice a0 xs.length d0, .int .i64 L.stack, .slice a2 L.slots.length d2, .int .i64 L.flash, .int .i64 L.ram, .slice (some ⟨gt, 0, none⟩) n n] 36)).cell? ⟨w4.heap.size, 2, none⟩ = some (.slice a2 L.slots.length d2) := kM.cell 2
            have m3 : (w4.alloc (.cells #[.slice a0 xs.length d0, .int .i64 L.stack, .slice a2 L.slots.length d2, .int .i64 L.flash, .int .i64 L.ram, .slice (some ⟨gt, 0, none⟩) n n] 36)).cell? ⟨w4.heap.size, 3, none⟩ = some (.int .i64 L.flash) := kM.cell 3
            have m4 : (w4.alloc (.cells #[.slice a0 xs.length d0, .int .i64 L.stack, .slice a2 L.slots.length d2, .int .i64 L.flash, .int .i64 L.ram, .slice (some ⟨gt, 0, none⟩) n n] 36)).cell? ⟨w4.heap.size, 4, none⟩ = some (.int .i64 L.ram) := kM.cell 4
            have m5 : (w4.alloc (.cells #[.slice a0 xs.length d0, .int .i64 L.stack, .slice a2 L.slots.length d2, .int .i64 L.flash, .int .i64 L.ram, .slice (some ⟨gt, 0, none⟩) n n] 36)).cell? ⟨w4.heap.size, 5, none⟩ = some (.slice (some ⟨gt, 0, none⟩) n n) := kM.cell 5
            have HS5 := hide (And.intro S5 (And.intro LO6 (And.intro TF6 S6)))
            clear hb4 S4 TF4 LO al kL hL HS HTF HLA c0 c1 c2 c3 alM kM TF5 LO5
            unfold layV
            by_cases h7 : 16384 < L.flash
            · have HP := hide (lkc_7 (d := d) HS4.out HI.out HN6.out (by rw [← HLL.out]; exact h7))
              have p0 : (w4.alloc (.cells #[.slice a0 xs.length d0, .int .i64 L.stack, .slice a2 L.slots.length d2, .int .i64 L.flash, .int .i64 L.ram, .slice none 0 0] 36)).cell? ⟨w.heap.size + 1, 0, none⟩ = some (.slice none 0 0) := S5.k1.cell 0
              have p1 : (w4.alloc (.cells #[.slice a0 xs.length d0, .int .i64 L.stack, .slice a2 L.slots.length d2, .int .i64 L.flash, .int .i64 L.ram, .slice none 0 0] 36)).cell? ⟨w.heap.size + 1, 1, none⟩ = some (.int .i64 0) := S5.k1.cell 1
              have p2 : (w4.alloc (.cells #[.slice a0 xs.length d0, .int .i64 L.stack, .slice a2 L.slots.length d2, .int .i64 L.flash, .int .i64 L.ram, .slice none 0 0] 36)).cell? ⟨w.heap.size + 1, 2, none⟩ = some (.slice none 0 0) := S5.k1.cell 2
              have p3 : (w4.alloc (.cells #[.slice a0 xs.length d0, .int .i64 L.stack, .slice a2 L.slots.length d2, .int .i64 L.flash, .int .i64 L.ram, .slice none 0 0] 36)).cell? ⟨w.heap.size + 1, 3, none⟩ = some (.int .i64 0) := S5.k1.cell 3
              have p4 : (w4.alloc (.cells #[.slice a0 xs.length d0, .int .i64 L.stack, .slice a2 L.slots.length d2, .int .i64 L.flash, .int .i64 L.ram, .slice none 0 0] 36)).cell? ⟨w.heap.size + 1, 4, none⟩ = some (.int .i64 0) := S5.k1.cell 4
              have p5 : (w4.alloc (.cells #[.slice a0 xs.length d0, .int .i64 L.stack, .slice a2 L.slots.length d2, .int .i64 L.flash, .int .i64 L.ram, .slice none 0 0] 36)).cell? ⟨w.heap.size + 1, 5, none⟩ = some (.slice none 0 0) := S5.k1.cell 5
              have y0 : (w4.alloc (.cells #[.slice a0 xs.length d0, .int .i64 L.stack, .slice a2 L.slots.length d2, .int .i64 L.flash, .int .i64 L.ram, .slice none 0 0] 36)).frozen? ⟨w.heap.size + 1, 0, none⟩ = false := S5.k1.frozen 0
              have y1 : (w4.alloc (.cells #[.slice a0 xs.length d0, .int .i64 L.stack, .slice a2 L.slots.length d2, .int .i64 L.flash, .int .i64 L.ram, .slice none 0 0] 36)).frozen? ⟨w.heap.size + 1, 1, none⟩ = false := S5.k1.frozen 1
              have y2 : (w4.alloc (.cells #[.slice a0 xs.length d0, .int .i64 L.stack, .slice a2 L.slots.length d2, .int .i64 L.flash, .int .i64 L.ram, .slice none 0 0] 36)).frozen? ⟨w.heap.size + 1, 2, none⟩ = false := S5.k1.frozen 2
              have y3 : (w4.alloc (.cells #[.slice a0 xs.length d0, .int .i64 L.stack, .slice a2 L.slots.length d2, .int .i64 L.flash, .int .i64 L.ram, .slice none 0 0] 36)).frozen? ⟨w.heap.size + 1, 3, none⟩ = false := S5.k1.frozen 3
              have y4 : (w4.alloc (.cells #[.slice a0 xs.length d0, .int .i64 L.stack, .slice a2 L.slots.length d2, .int .i64 L.flash, .int .i64 L.ram, .slice none 0 0] 36)).frozen? ⟨w.heap.size + 1, 4, none⟩ = false := S5.k1.frozen 4
              have y5 : (w4.alloc (.cells #[.slice a0 xs.length d0, .int .i64 L.stack, .slice a2 L.slots.length d2, .int .i64 L.flash, .int .i64 L.ram, .slice none 0 0] 36)).frozen? ⟨w.heap.size + 1, 5, none⟩ = false := S5.k1.frozen 5
              clear S5 S6 LO6 TF6
              go_wp2
              exact link_noI HS5.out.1 HP.out (by decide) _ rfl rfl
            · have h7' : ¬ 16384 < L.flash := h7
              by_cases h8 : 16384 < L.ram
              · have HP := hide (lkc_8 (d := d) HS4.out HI.out HN6.out (by rw [← HLL.out]; exact h7) (by rw [← HLL.out]; exact h8))
                have p0 : (w4.alloc (.cells #[.slice a0 xs.length d0, .int .i64 L.stack, .slice a2 L.slots.length d2, .int .i64 L.flash, .int .i64 L.ram, .slice none 0 0] 36)).cell? ⟨w.heap.size + 1, 0, none⟩ = some (.slice none 0 0) := S5.k1.cell 0
                have p1 : (w4.alloc (.cells #[.slice a0 xs.length d0, .int .i64 L.stack, .slice a2 L.slots.length d2, .int .i64 L.flash, .int .i64 L.ram, .slice none 0 0] 36)).cell? ⟨w.heap.size + 1, 1, none⟩ = some (.int .i64 0) := S5.k1.cell 1
                have p2 : (w4.alloc (.cells #[.slice a0 xs.length d0, .int .i64 L.stack, .slice a2 L.slots.length d2, .int .i64 L.flash, .int .i64 L.ram, .slice none 0 0] 36)).cell? ⟨w.heap.size + 1, 2, none⟩ = some (.slice none 0 0) := S5.k1.cell 2
                have p3 : (w4.alloc (.cells #[.slice a0 xs.length d0, .int .i64 L.stack, .slice a2 L.slots.length d2, .int .i64 L.flash, .int .i64 L.ram, .slice none 0 0] 36)).cell? ⟨w.heap.size + 1, 3, none⟩ = some (.int .i64 0) := S5.k1.cell 3
                have p4 : (w4.alloc (.cells #[.slice a0 xs.length d0, .int .i64 L.stack, .slice a2 L.slots.length d2, .int .i64 L.flash, .int .i64 L.ram, .slice none 0 0] 36)).cell? ⟨w.heap.size + 1, 4, none⟩ = some (.int .i64 0) := S5.k1.cell 4
                have p5 : (w4.alloc (.cells #[.slice a0 xs.length d0, .int .i64 L.stack, .slice a2 L.slots.length d2, .int .i64 L.flash, .int .i64 L.ram, .slice none 0 0] 36)).cell? ⟨w.heap.size + 1, 5, none⟩ = some (.slice none 0 0) := S5.k1.cell 5
                have y0 : (w4.alloc (.cells #[.slice a0 xs.length d0, .int .i64 L.stack, .slice a2 L.slots.length d2, .int .i64 L.flash, .int .i64 L.ram, .slice none 0 0] 36)).frozen? ⟨w.heap.size + 1, 0, none⟩ = false := S5.k1.frozen 0
                have y1 : (w4.alloc (.cells #[.slice a0 xs.length d0, .int .i64 L.stack, .slice a2 L.slots.length d2, .int .i64 L.flash, .int .i64 L.ram, .slice none 0 0] 36)).frozen? ⟨w.heap.size + 1, 1, none⟩ = false := S5.k1.frozen 1
                have y2 : (w4.alloc (.cells #[.slice a0 xs.length d0, .int .i64 L.stack, .slice a2 L.slots.length d2, .int .i64 L.flash, .int .i64 L.ram, .slice none 0 0] 36)).frozen? ⟨w.heap.size + 1, 2, none⟩ = false := S5.k1.frozen 2
                have y3 : (w4.alloc (.cells #[.slice a0 xs.length d0, .int .i64 L.stack, .slice a2 L.slots.length d2, .int .i64 L.flash, .int .i64 L.ram, .slice none 0 0] 36)).frozen? ⟨w.heap.size + 1, 3, none⟩ = false := S5.k1.frozen 3
                have y4 : (w4.alloc (.cells #[.slice a0 xs.length d0, .int .i64 L.stack, .slice a2 L.slots.length d2, .int .i64 L.flash, .int .i64 L.ram, .slice none 0 0] 36)).frozen? ⟨w.heap.size + 1, 4, none⟩ = false := S5.k1.frozen 4
                have y5 : (w4.alloc (.cells #[.slice a0 xs.length d0, .int .i64 L.stack, .slice a2 L.slots.length d2, .int .i64 L.flash, .int .i64 L.ram, .slice none 0 0] 36)).frozen? ⟨w.heap.size + 1, 5, none⟩ = false := S5.k1.frozen 5
                clear S5 S6 LO6 TF6
                go_wp2
                exact link_noI HS5.out.1 HP.out (by decide) _ rfl rfl
              · have HP := hide (lkc_0 (d := d) HS4.out HI.out HN6.out (by rw [← HLL.out]; exact h7) (by rw [← HLL.out]; exact h8))
                have p0 : (w4.alloc (.cells #[.slice a0 xs.length d0, .int .i64 L.stack, .slice a2 L.slots.length d2, .int .i64 L.flash, .int .i64 L.ram, .slice (some ⟨gt, 0, none⟩) n n] 36)).cell? ⟨w.heap.size + 1, 0, none⟩ = some (.slice none 0 0) := S6.k1.cell 0
                have p1 : (w4.alloc (.cells #[.slice a0 xs.length d0, .int .i64 L.stack, .slice a2 L.slots.length d2, .int .i64 L.flash, .int .i64 L.ram, .slice (some ⟨gt, 0, none⟩) n n] 36)).cell? ⟨w.heap.size + 1, 1, none⟩ = some (.int .i64 0) := S6.k1.cell 1
                have p2 : (w4.alloc (.cells #[.slice a0 xs.length d0, .int .i64 L.stack, .slice a2 L.slots.length d2, .int .i64 L.flash, .int .i64 L.ram, .slice (some ⟨gt, 0, none⟩) n n] 36)).cell? ⟨w.heap.size + 1, 2, none⟩ = some (.slice none 0 0) := S6.k1.cell 2
                have p3 : (w4.alloc (.cells #[.slice a0 xs.length d0, .int .i64 L.stack, .slice a2 L.slots.length d2, .int .i64 L.flash, .int .i64 L.ram, .slice (some ⟨gt, 0, none⟩) n n] 36)).cell? ⟨w.heap.size + 1, 3, none⟩ = some (.int .i64 0) := S6.k1.cell 3
                have p4 : (w4.alloc (.cells #[.slice a0 xs.length d0, .int .i64 L.stack, .slice a2 L.slots.length d2, .int .i64 L.flash, .int .i64 L.ram, .slice (some ⟨gt, 0, none⟩) n n] 36)).cell? ⟨w.heap.size + 1, 4, none⟩ = some (.int .i64 0) := S6.k1.cell 4
                have p5 : (w4.alloc (.cells #[.slice a0 xs.length d0, .int .i64 L.stack, .slice a2 L.slots.length d2, .int .i64 L.flash, .int .i64 L.ram, .slice (some ⟨gt, 0, none⟩) n n] 36)).cell? ⟨w.heap.size + 1, 5, none⟩ = some (.slice none 0 0) := S6.k1.cell 5
                have y0 : (w4.alloc (.cells #[.slice a0 xs.length d0, .int .i64 L.stack, .slice a2 L.slots.length d2, .int .i64 L.flash, .int .i64 L.ram, .slice (some ⟨gt, 0, none⟩) n n] 36)).frozen? ⟨w.heap.size + 1, 0, none⟩ = false := S6.k1.frozen 0
                have y1 : (w4.alloc (.cells #[.slice a0 xs.length d0, .int .i64 L.stack, .slice a2 L.slots.length d2, .int .i64 L.flash, .int .i64 L.ram, .slice (some ⟨gt, 0, none⟩) n n] 36)).frozen? ⟨w.heap.size + 1, 1, none⟩ = false := S6.k1.frozen 1
                have y2 : (w4.alloc (.cells #[.slice a0 xs.length d0, .int .i64 L.stack, .slice a2 L.slots.length d2, .int .i64 L.flash, .int .i64 L.ram, .slice (some ⟨gt, 0, none⟩) n n] 36)).frozen? ⟨w.heap.size + 1, 2, none⟩ = false := S6.k1.frozen 2
                have y3 : (w4.alloc (.cells #[.slice a0 xs.length d0, .int .i64 L.stack, .slice a2 L.slots.length d2, .int .i64 L.flash, .int .i64 L.ram, .slice (some ⟨gt, 0, none⟩) n n] 36)).frozen? ⟨w.heap.size + 1, 3, none⟩ = false := S6.k1.frozen 3
                have y4 : (w4.alloc (.cells #[.slice a0 xs.length d0, .int .i64 L.stack, .slice a2 L.slots.length d2, .int .i64 L.flash, .int .i64 L.ram, .slice (some ⟨gt, 0, none⟩) n n] 36)).frozen? ⟨w.heap.size + 1, 4, none⟩ = false := S6.k1.frozen 4
                have y5 : (w4.alloc (.cells #[.slice a0 xs.length d0, .int .i64 L.stack, .slice a2 L.slots.length d2, .int .i64 L.flash, .int .i64 L.ram, .slice (some ⟨gt, 0, none⟩) n n] 36)).frozen? ⟨w.heap.size + 1, 5, none⟩ = false := S6.k1.frozen 5
                clear S5 S6 LO6 TF6
                go_wp2
                refine link_endI HS5.out.2.2.2.k1 _ _ _ _ _ _ 0 _ _ rfl rfl ?_
                obtain ⟨S5, LO5, TF5, S6⟩ := HS5.out
                have t := turn_st6 (w4.alloc (.cells #[.slice a0 xs.length d0, .int .i64 L.stack, .slice a2 L.slots.length d2, .int .i64 L.flash, .int .i64 L.ram, .slice (some ⟨gt, 0, none⟩) n n] 36)) (w.heap.size + 1) (.slice a0 xs.length d0) (.int .i64 L.stack) (.slice a2 L.slots.length d2) (.int .i64 L.flash) (.int .i64 L.ram) (.slice (some ⟨gt, 0, none⟩) n n)
                have OT := TF5.otg (c := n) (Nat.le_refl _) (by unfold maxLen; omega) rfl
                have key : ∀ (base sz nn : Nat) (ty : TypeId) (v : Value) (ys : List Value), (w4.alloc (.cells #[.slice a0 xs.length d0, .int .i64 L.stack, .slice a2 L.slots.length d2, .int .i64 L.flash, .int .i64 L.ram, .slice (some ⟨gt, 0, none⟩) n n] 36)).ownsRow base ty sz v nn ys → ty ≠ 36 → ∀ j, v.ownBlock = some j → ¬ (fun j => j = w.heap.size + 1) j := fun base sz nn ty v ys ho hne j hj e => by
                  have e' : j = w.heap.size + 1 := e
                  subst e'
                  exact kind_no ho hj S6.k1 hne
                refine ⟨below_turn S6.be (turn_st6 _ _ _ _ _ _ _ _) (fun j hj => by have e : j = w.heap.size + 1 := hj; omega) S6.be.size, a0, d0, xs, a2, d2, some ⟨gt, 0, none⟩, n, (List.range n).map f, ?_, ?_⟩
                · unfold lkL layV; rw [if_pos HP.out, HP.out, ← HLL.out]; simp
                · unfold lkL; rw [if_pos HP.out, ← HLL.out]
                  exact ⟨(LO5.p.kept t (key _ _ _ _ _ _ LO5.p.head (by decide)) (fun x hx => key _ _ _ _ _ _ (LO5.p.rows x hx) (by decide))).mono (by omega) (by omega), LO5.ps, (LO5.s.kept t (key _ _ _ _ _ _ LO5.s (by decide))).mono (by omega), (OT.kept t (key _ _ _ _ _ _ OT.head (by decide)) (fun x hx => key _ _ _ _ _ _ (OT.rows x hx) (by decide))).mono (by omega) (by omega), by rw [HLL.out]; unfold lay; rw [hpl, List.map_map]; exact List.map_congr_left (fun i hi => HFE.out i (by simpa using hi)), LO5.sp⟩
  · have hV0' : (V != 0) = true := by simp [hV0]
    have HP := hide (lkc_1 (ps := pmS ms) HV.out.symm hV0)
    have HS := hide S1
    have p0 : w1.cell? ⟨w.heap.size + 1, 0, none⟩ = some (.slice none 0 0) := S1.k1.cell 0
    have p1 : w1.cell? ⟨w.heap.size + 1, 1, none⟩ = some (.int .i64 0) := S1.k1.cell 1
    have p2 : w1.cell? ⟨w.heap.size + 1, 2, none⟩ = some (.slice none 0 0) := S1.k1.cell 2
    have p3 : w1.cell? ⟨w.heap.size + 1, 3, none⟩ = some (.int .i64 0) := S1.k1.cell 3
    have p4 : w1.cell? ⟨w.heap.size + 1, 4, none⟩ = some (.int .i64 0) := S1.k1.cell 4
    have p5 : w1.cell? ⟨w.heap.size + 1, 5, none⟩ = some (.slice none 0 0) := S1.k1.cell 5
    have y0 : w1.frozen? ⟨w.heap.size + 1, 0, none⟩ = false := S1.k1.frozen 0
    have y1 : w1.frozen? ⟨w.heap.size + 1, 1, none⟩ = false := S1.k1.frozen 1
    have y2 : w1.frozen? ⟨w.heap.size + 1, 2, none⟩ = false := S1.k1.frozen 2
    have y3 : w1.frozen? ⟨w.heap.size + 1, 3, none⟩ = false := S1.k1.frozen 3
    have y4 : w1.frozen? ⟨w.heap.size + 1, 4, none⟩ = false := S1.k1.frozen 4
    have y5 : w1.frozen? ⟨w.heap.size + 1, 5, none⟩ = false := S1.k1.frozen 5
    clear S1
    go_wp2
    exact link_noI HS.out HP.out hV0 _ rfl rfl
set_option maxHeartbeats 4000000 in
theorem layoutOk_any (a : Option Addr) (n cap : Nat) (ms : List Md) (L : Lay) (a0 : Option Addr) (c0 : Nat) (xs : List PB) (a2 : Option Addr) (c2 : Nat) (a5 : Option Addr) (c5 : Nat) (ts : List TB) (w : World) (h : MSD w a n cap ms) (hL : LyT w L a0 c0 xs a2 c2 a5 c5 ts) :
    Calls Tryz.prog 56 #[.slice a n cap, .agg #[.slice a0 xs.length c0, .int .i64 L.stack, .slice a2 L.slots.length c2, .int .i64 L.flash, .int .i64 L.ram, .slice a5 ts.length c5]] w fun e w' => e = .returned (.bool (decide (Lok (pmS ms) L))) ∧ Below w.heap.size w w' := by
  obtain ⟨r, hr⟩ : ∃ r, r = decide (Lok (pmS ms) L) := ⟨_, rfl⟩
  rw [← hr]
  replace hr : r = true ↔ Lok (pmS ms) L := by rw [hr]; simp
  unfold Lok at hr
  have HLB := hide (layB_lk (pmS ms) (L.slots.length : Int) (cfW L) (cfK L) 0)
  have HLV := hide (lkL_v (pmS ms) (L.slots.length : Int) (cfW L) (cfK L) 0)
  have HIM := hide (fun (W : World) (hb : Below w.heap.size w W) => by
    have := iLink_any a n cap ms (L.slots.length : Int) (cfW L) (cfK L) 0 W (h.below hb)
    unfold LkM layV at this
    exact this)
  generalize lkL (pmS ms) (L.slots.length : Int) (cfW L) (cfK L) 0 = LY at *
  generalize lkc (pmS ms) (L.slots.length : Int) (cfW L) (cfK L) 0 = C at *
  have HR := hide hr
  have HCF := hide (fun (W : World) (hb : Below w.heap.size w W) => configOf_any L a0 c0 xs a2 c2 a5 c5 ts W (hL.below hb))
  have B0 : Below w.heap.size w (w.alloc (.cells #[.slice a0 xs.length c0, .int .i64 L.stack, .slice a2 L.slots.length c2, .int .i64 L.flash, .int .i64 L.ram, .slice a5 ts.length c5] 36)) := (Below.refl _ _).alloc (Nat.le_refl _) _
  have k0 := Blk.new w #[.slice a0 xs.length c0, .int .i64 L.stack, .slice a2 L.slots.length c2, .int .i64 L.flash, .int .i64 L.ram, .slice a5 ts.length c5] 36
  have HL := hide hL
  clear h hL hr
  go_enter Tryz.func56, Tryz.ntmps56
  go_wp2_with fail
  refine (HCF.out _ B0).mono ?_
  rintro e w1 ⟨rfl, hb1⟩
  have B1 := B0.trans (hb1.mono B0.size)
  have k1 := k0.below hb1
  clear hb1 B0 k0
  go_wp2_with fail
  refine (HIM.out _ B1).mono ?_
  rintro e w2 ⟨hb2, b0, d0, ys, b2, d2, b5, d5, us, rfl, O2⟩
  have hA : Below w2.heap.size w2 (w2.alloc (.cells #[.slice b0 ys.length d0, .int .i64 LY.stack, .slice b2 LY.slots.length d2, .int .i64 LY.flash, .int .i64 LY.ram, .slice b5 us.length d5] 36)) := (Below.refl _ _).alloc (Nat.le_refl _) _
  have kt := Blk.new w2 #[.slice b0 ys.length d0, .int .i64 LY.stack, .slice b2 LY.slots.length d2, .int .i64 LY.flash, .int .i64 LY.ram, .slice b5 us.length d5] 36
  have B2 := B1.trans (hb2.mono B1.size)
  have B3 := B2.trans (hA.mono B2.size)
  have k3 := (k1.below hb2).below hA
  have O3 := O2.below' hA
  have HSM := hide (sameLayout_any LY b0 d0 ys b2 d2 b5 d5 us L a0 c0 xs a2 c2 a5 c5 ts _ (O3.lyt HLB.out.r HLV.out) (HL.out.below B3))
  have HB3 := hide B3
  obtain ⟨p0, p1, p2, p3, p4, p5⟩ := k3.ly6
  obtain ⟨q0, q1, q2, q3, q4, q5⟩ := kt.ly6
  clear hb2 O2 O3 hA B1 B2 B3 k1 k3 kt
  by_cases hC : C = 0
  · have g : (C == 0) = true := by simpa using hC
    have HV := hide (show decide (LY = L) = r by rw [Bool.eq_iff_iff, HR.out]; simp [hC])
    rw [HV.out] at HSM
    clear hC HR
    go_wp2_with fail
    refine HSM.out.mono ?_
    rintro e w4 ⟨rfl, hb4⟩
    have HB4 := hide (HB3.out.trans (hb4.mono HB3.out.size))
    clear hb4
    cases r
    all_goals
      go_wp2
      go_ret
      exact ⟨rfl, HB4.out⟩
  · have g : (C == 0) = false := by simpa using hC
    have HV := hide (show r = false by cases r; rfl; exact absurd (HR.out.1 rfl).1 hC)
    clear hC HR
    go_wp2
    go_ret
    exact ⟨ret_bool HV.out.symm, HB3.out⟩
def VlP (w : World) (M : Mn) (e : Ending) (w' : World) : Prop := Below w.heap.size w w' ∧ ∃ y0 n0 d0 i1 y2 n2 d2 i3 i4 y5 n5 d5 b, e = .returned (.tuple #[.agg #[.slice y0 n0 d0, .int .i64 i1, .slice y2 n2 d2, .int .i64 i3, .int .i64 i4, .slice y5 n5 d5], .bool b]) ∧ (b = true ↔ MOk M) ∧ (b = true → ∃ a0 c0 xs a2 c2 a5 c5 ts, #[.slice y0 n0 d0, .int .i64 i1, .slice y2 n2 d2, .int .i64 i3, .int .i64 i4, .slice y5 n5 d5] = layV M.L a0 c0 xs a2 c2 a5 c5 ts ∧ LyT w' M.L a0 c0 xs a2 c2 a5 c5 ts)
theorem vl_no {w w' : World} {M : Mn} {y0 y2 y5 : Option Addr} {n0 d0 n2 d2 n5 d5 : Nat} {i1 i3 i4 : Int} (hb : Below w.heap.size w w') (h : ¬ MOk M) : VlP w M (.returned (.tuple #[.agg #[.slice y0 n0 d0, .int .i64 i1, .slice y2 n2 d2, .int .i64 i3, .int .i64 i4, .slice y5 n5 d5], .bool false])) w' := ⟨hb, y0, n0, d0, i1, y2, n2, d2, i3, i4, y5, n5, d5, false, rfl, by simp [h], fun h => by cases h⟩
theorem vl_yes {w w' : World} {M : Mn} {a0 : Option Addr} {c0 : Nat} {xs : List PB} {a2 : Option Addr} {c2 : Nat} {a5 : Option Addr} {c5 : Nat} {ts : List TB} {L : Lay} (eL : L = M.L) (hb : Below w.heap.size w w') (h : MOk M) (hl : LyT w' L a0 c0 xs a2 c2 a5 c5 ts) : VlP w M (.returned (.tuple #[.agg #[.slice a0 xs.length c0, .int .i64 L.stack, .slice a2 L.slots.length c2, .int .i64 L.flash, .int .i64 L.ram, .slice a5 ts.length c5], .bool true])) w' := by
  subst eL
  exact ⟨hb, _, _, _, _, _, _, _, _, _, _, _, _, true, rfl, by simp [h], fun _ => ⟨a0, c0, xs, a2, c2, a5, c5, ts, rfl, hl⟩⟩
theorem bool_of (P : Prop) : ∃ b : Bool, b = true ↔ P := by
  by_cases c : P
  · exact ⟨true, fun _ => c, fun _ => rfl⟩
  · exact ⟨false, fun h => Bool.noConfusion h, fun h => absurd h c⟩
end Go.Proofs.YtngdgogjlpjjpaeGreat
