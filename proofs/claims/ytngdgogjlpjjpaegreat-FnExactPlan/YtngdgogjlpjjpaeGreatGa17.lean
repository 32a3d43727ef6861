import Derived.Test.YtngdgogjlpjjpaeGreatGa16
import Derived.Deep.RegionLaw
namespace Go.Proofs.YtngdgogjlpjjpaeGreat
open Go.RowKit
set_option linter.unusedVariables false
set_option linter.unusedSimpArgs false
set_option maxRecDepth 100000

def L0 : Lay := ⟨[], 0, [], 0, 0, []⟩
/-- the layout that Link gives -/
def lkL (ps : List PMod) (s w k d : Int) : Lay := if lkc ps s w k d = 0 then lay ps s w k else L0
def LkM (w : World) (ps : List PMod) (s c k d : Int) (e : Ending) (w' : World) : Prop := Below w.heap.size w w' ∧ ∃ a0 c0 xs a2 c2 a5 c5 ts, e = .returned (.tuple #[.agg (layV (lkL ps s c k d) a0 c0 xs a2 c2 a5 c5 ts), .int .i64 (lkc ps s c k d)]) ∧ LayO w' w.heap.size (lkL ps s c k d) a0 c0 xs a2 c2 a5 c5 ts
theorem lo_zero (W : World) (base : Nat) : LayO W base L0 none 0 [] none 0 none 0 [] := ⟨or_nil, rfl, og_nil _ _ _ _ _, or_nil, rfl, fun k hk => by simp [Value.ownBlock] at hk⟩
theorem lk_none {w w' : World} {ps : List PMod} {s c k d V : Int} (hb : Below w.heap.size w w') (hV : lkc ps s c k d = V) (h0 : V ≠ 0) : LkM w ps s c k d (.returned (.tuple #[.agg zL, .int .i64 V])) w' := by
  refine ⟨hb, none, 0, [], none, 0, none, 0, [], ?_, ?_⟩
  · unfold lkL; rw [if_neg (by rw [hV]; exact h0), hV]; rfl
  · unfold lkL; rw [if_neg (by rw [hV]; exact h0)]; exact lo_zero _ _
/-- THE BOXES OF Link -/
structure Kst (w W : World) (s c k d : Int) : Prop where
  be : Below w.heap.size w W
  k0 : Blk W w.heap.size #[.int .i64 s, .int .i64 c, .int .i64 k, .int .i64 d] 44
  k1 : Blk W (w.heap.size + 1) zL 36
  k2 : Blk W (w.heap.size + 2) zL 36
theorem Kst.below {w W W' : World} {s c k d : Int} (h : Kst w W s c k d) (hb : Below W.heap.size W W') : Kst w W' s c k d := ⟨h.be.trans (hb.mono h.be.size), h.k0.below hb, h.k1.below hb, h.k2.below hb⟩
theorem Kst.drew {w W : World} {s c k d : Int} (h : Kst w W s c k d) : Kst w W.drew s c k d := ⟨h.be.drew, h.k0, h.k1, h.k2⟩
theorem kst_new (w : World) (s c k d : Int) : Kst w (((w.alloc (.cells #[.int .i64 s, .int .i64 c, .int .i64 k, .int .i64 d] 44)).alloc (.cells #[.slice none 0 0, .int .i64 0, .slice none 0 0, .int .i64 0, .int .i64 0, .slice none 0 0] 36)).alloc (.cells #[.slice none 0 0, .int .i64 0, .slice none 0 0, .int .i64 0, .int .i64 0, .slice none 0 0] 36)) s c k d := by
  have k0 := Blk.new w #[.int .i64 s, .int .i64 c, .int .i64 k, .int .i64 d] 44
  have b0 : Below w.heap.size w (w.alloc (.cells #[.int .i64 s, .int .i64 c, .int .i64 k, .int .i64 d] 44)) := (Below.refl _ _).alloc (Nat.le_refl _) _
  have s0 : (w.alloc (.cells #[.int .i64 s, .int .i64 c, .int .i64 k, .int .i64 d] 44)).heap.size = w.heap.size + 1 := by simp
  generalize w.alloc (.cells #[.int .i64 s, .int .i64 c, .int .i64 k, .int .i64 d] 44) = W0 at *
  have k1 := Blk.new W0 #[.slice none 0 0, .int .i64 0, .slice none 0 0, .int .i64 0, .int .i64 0, .slice none 0 0] 36
  have b1 : Below W0.heap.size W0 (W0.alloc (.cells #[.slice none 0 0, .int .i64 0, .slice none 0 0, .int .i64 0, .int .i64 0, .slice none 0 0] 36)) := (Below.refl _ _).alloc (Nat.le_refl _) _
  have s1 : (W0.alloc (.cells #[.slice none 0 0, .int .i64 0, .slice none 0 0, .int .i64 0, .int .i64 0, .slice none 0 0] 36)).heap.size = w.heap.size + 2 := by simp [s0]
  rw [s0] at k1
  generalize W0.alloc (.cells #[.slice none 0 0, .int .i64 0, .slice none 0 0, .int .i64 0, .int .i64 0, .slice none 0 0] 36) = W1 at *
  have k2 := Blk.new W1 #[.slice none 0 0, .int .i64 0, .slice none 0 0, .int .i64 0, .int .i64 0, .slice none 0 0] 36
  have b2 : Below W1.heap.size W1 (W1.alloc (.cells #[.slice none 0 0, .int .i64 0, .slice none 0 0, .int .i64 0, .int .i64 0, .slice none 0 0] 36)) := (Below.refl _ _).alloc (Nat.le_refl _) _
  rw [s1] at k2
  have c12 := b1.trans (b2.mono (by omega))
  exact ⟨b0.trans (c12.mono (by omega)), k0.below c12, k1.below b2, k2⟩
/-- the ends of Link -/
theorem link_end {w W : World} (k1 : Blk W (w.heap.size + 1) zL 36) (v0 v1 v2 v3 v4 v5 : Value) (V : Int) (Q : Ending → World → Prop) (tmps : Array Value) (h4 : tmps[4]? = some (.pointer (some ⟨w.heap.size + 1, 0, none⟩))) (h5 : tmps[5]? = some (.int .i64 V)) (hQ : Q (.returned (.tuple #[.agg #[v0, v1, v2, v3, v4, v5], .int .i64 V])) (st6 W (w.heap.size + 1) v0 v1 v2 v3 v4 v5)) :
    bodyPost Tryz.prog Tryz.f72 Q Exit.ret ⟨tmps, []⟩ (st6 W (w.heap.size + 1) v0 v1 v2 v3 v4 v5) := by
  have k := blk_st6 k1 v0 v1 v2 v3 v4 v5
  have t0 : (st6 W (w.heap.size + 1) v0 v1 v2 v3 v4 v5).cell? ⟨w.heap.size + 1, 0, none⟩ = some v0 := k.cell 0
  have t1 : (st6 W (w.heap.size + 1) v0 v1 v2 v3 v4 v5).cell? ⟨w.heap.size + 1, 1, none⟩ = some v1 := k.cell 1
  have t2 : (st6 W (w.heap.size + 1) v0 v1 v2 v3 v4 v5).cell? ⟨w.heap.size + 1, 2, none⟩ = some v2 := k.cell 2
  have t3 : (st6 W (w.heap.size + 1) v0 v1 v2 v3 v4 v5).cell? ⟨w.heap.size + 1, 3, none⟩ = some v3 := k.cell 3
  have t4 : (st6 W (w.heap.size + 1) v0 v1 v2 v3 v4 v5).cell? ⟨w.heap.size + 1, 4, none⟩ = some v4 := k.cell 4
  have t5 : (st6 W (w.heap.size + 1) v0 v1 v2 v3 v4 v5).cell? ⟨w.heap.size + 1, 5, none⟩ = some v5 := k.cell 5
  refine bodyPost_ret_by (v := .tuple #[.agg #[v0, v1, v2, v3, v4, v5], .int .i64 V]) ?_ rfl hQ
  simp [results, Tryz.results72, go_sem, h4, h5, t0, t1, t2, t3, t4, t5]
theorem link_no {w W : World} {ps : List PMod} {s c k d V : Int} (S : Kst w W s c k d) (hV : lkc ps s c k d = V) (h0 : V ≠ 0) (tmps : Array Value) (h4 : tmps[4]? = some (.pointer (some ⟨w.heap.size + 1, 0, none⟩))) (h5 : tmps[5]? = some (.int .i64 V)) :
    bodyPost Tryz.prog Tryz.f72 (LkM w ps s c k d) Exit.ret ⟨tmps, []⟩ (st6 W (w.heap.size + 1) (.slice none 0 0) (.int .i64 0) (.slice none 0 0) (.int .i64 0) (.int .i64 0) (.slice none 0 0)) :=
  link_end S.k1 _ _ _ _ _ _ V _ tmps h4 h5 (lk_none (below_turn S.be (turn_st6 _ _ _ _ _ _ _ _) (fun j hj => by have e : j = w.heap.size + 1 := hj; omega) S.be.size) hV h0)
theorem lkc_1 {ps : List PMod} {s w k d V : Int} (h : snd4 ps s w k d = V) (h0 : V ≠ 0) : lkc ps s w k d = V := by unfold lkc; rw [if_pos (by rw [h]; exact h0), h]
theorem lkc_5 {ps : List PMod} {s w k d : Int} (h : snd4 ps s w k d = 0) (h5 : ¬ imps ps) : lkc ps s w k d = 5 := by unfold lkc; rw [if_neg (by rw [h]; decide), if_pos h5]
theorem lkc_6 {ps : List PMod} {s w k d : Int} (h : snd4 ps s w k d = 0) (h5 : imps ps) (h6 : 0 < s ∧ ¬ shrt ps w) : lkc ps s w k d = 6 := by unfold lkc; rw [if_neg (by rw [h]; decide), if_neg (fun e => e h5), if_pos h6]
theorem lkc_7 {ps : List PMod} {s w k d : Int} (h : snd4 ps s w k d = 0) (h5 : imps ps) (h6 : ¬ (0 < s ∧ ¬ shrt ps w)) (h7 : 16384 < (lay ps s w k).flash) : lkc ps s w k d = 7 := by unfold lkc; rw [if_neg (by rw [h]; decide), if_neg (fun e => e h5), if_neg h6, if_pos h7]
theorem lkc_8 {ps : List PMod} {s w k d : Int} (h : snd4 ps s w k d = 0) (h5 : imps ps) (h6 : ¬ (0 < s ∧ ¬ shrt ps w)) (h7 : ¬ 16384 < (lay ps s w k).flash) (h8 : 16384 < (lay ps s w k).ram) : lkc ps s w k d = 8 := by unfold lkc; rw [if_neg (by rw [h]; decide), if_neg (fun e => e h5), if_neg h6, if_neg h7, if_pos h8]
theorem lkc_0 {ps : List PMod} {s w k d : Int} (h : snd4 ps s w k d = 0) (h5 : imps ps) (h6 : ¬ (0 < s ∧ ¬ shrt ps w)) (h7 : ¬ 16384 < (lay ps s w k).flash) (h8 : ¬ 16384 < (lay ps s w k).ram) : lkc ps s w k d = 0 := by unfold lkc; rw [if_neg (by rw [h]; decide), if_neg (fun e => e h5), if_neg h6, if_neg h7, if_neg h8]
theorem snd4_parts {ps : List PMod} {s w k d : Int} (h : snd4 ps s w k d = 0) : cfo s w k d = true ∧ ps.length ≤ 4 ∧ vlds ps := by
  unfold snd4 at h
  split at h
  · simp at h
  split at h
  · simp at h
  split at h
  · simp at h
  · rename_i h1 h2 h3
    exact ⟨by simpa using h1, by omega, Classical.not_not.1 h3⟩

set_option maxHeartbeats 8000000 in
theorem sLink_any (a : Option Addr) (n cap : Nat) (ms : List Md) (s c k d : Int) (w : World) (h : MSD w a n cap ms) :
    Calls Tryz.prog 72 #[.slice a n cap, .agg #[.int .i64 s, .int .i64 c, .int .i64 k, .int .i64 d]] w (LkM w (pmS ms) s c k d) := by
  have K0 := kst_new w s c k d
  have hl := h.s.1
  have hpl : (pmS ms).length = n := by rw [pmS_len, hl]
  have HH := hide h
  have HSND := hide (fun (W : World) (hb : Below w.heap.size w W) => l5Sound_any a n cap ms s c k d W (h.below hb))
  obtain ⟨V, hV⟩ : ∃ V, V = snd4 (pmS ms) s c k d := ⟨_, rfl⟩
  rw [← hV] at HSND
  have HV := hide hV
  have HK := hide K0
  have c0 : (((w.alloc (.cells #[.int .i64 s, .int .i64 c, .int .i64 k, .int .i64 d] 44)).alloc (.cells #[.slice none 0 0, .int .i64 0, .slice none 0 0, .int .i64 0, .int .i64 0, .slice none 0 0] 36)).alloc (.cells #[.slice none 0 0, .int .i64 0, .slice none 0 0, .int .i64 0, .int .i64 0, .slice none 0 0] 36)).cell? ⟨w.heap.size, 0, none⟩ = some (.int .i64 s) := K0.k0.cell 0
  have c1 : (((w.alloc (.cells #[.int .i64 s, .int .i64 c, .int .i64 k, .int .i64 d] 44)).alloc (.cells #[.slice none 0 0, .int .i64 0, .slice none 0 0, .int .i64 0, .int .i64 0, .slice none 0 0] 36)).alloc (.cells #[.slice none 0 0, .int .i64 0, .slice none 0 0, .int .i64 0, .int .i64 0, .slice none 0 0] 36)).cell? ⟨w.heap.size, 1, none⟩ = some (.int .i64 c) := K0.k0.cell 1
  have c2 : (((w.alloc (.cells #[.int .i64 s, .int .i64 c, .int .i64 k, .int .i64 d] 44)).alloc (.cells #[.slice none 0 0, .int .i64 0, .slice none 0 0, .int .i64 0, .int .i64 0, .slice none 0 0] 36)).alloc (.cells #[.slice none 0 0, .int .i64 0, .slice none 0 0, .int .i64 0, .int .i64 0, .slice none 0 0] 36)).cell? ⟨w.heap.size, 2, none⟩ = some (.int .i64 k) := K0.k0.cell 2
  have c3 : (((w.alloc (.cells #[.int .i64 s, .int .i64 c, .int .i64 k, .int .i64 d] 44)).alloc (.cells #[.slice none 0 0, .int .i64 0, .slice none 0 0, .int .i64 0, .int .i64 0, .slice none 0 0] 36)).alloc (.cells #[.slice none 0 0, .int .i64 0, .slice none 0 0, .int .i64 0, .int .i64 0, .slice none 0 0] 36)).cell? ⟨w.heap.size, 3, none⟩ = some (.int .i64 d) := K0.k0.cell 3
  clear h K0 hV
  go_enter Tryz.func72, Tryz.ntmps72
  go_wp2_with fail
  refine (HSND.out _ HK.out.be).mono ?_
  rintro e w1 ⟨rfl, hb1⟩
  have S1 := HK.out.below hb1
  clear hb1 c0 c1 c2 c3 HK
  by_cases hV0 : V = 0
  · have hs4 := HV.out
    rw [hV0] at hs4
    obtain ⟨hcf, h4, hvl⟩ := snd4_parts hs4.symm
    have HS4 := hide hs4.symm
    have HVL := hide hvl
    have HCF := hide hcf
    rw [hpl] at h4
    subst hV0
    clear hs4 hvl hcf
    have HK1 := hide S1
    clear S1
    go_wp2
    go_loopw [7] (fun i wr => ∃ m : Nat, m ≤ n ∧ i = .int .i64 m ∧ (∀ j, j < m → tgOk (pmS ms) ((pmS ms).getD j zP)) ∧ Kst w wr s c k d) (fun i _ => n - (intOf i).toNat)
    case atStart => exact ⟨0, Nat.zero_le _, rfl, fun j hj => absurd hj (by omega), HK1.out⟩
    case round =>
      clear HK1
      obtain ⟨m, hm, rfl, hv, S⟩ := hrel
      by_cases hlt : m < n
      · have hlt' : (m : Int) < (n : Int) := by omega
        have H := HH.out.below S.be
        obtain ⟨b, off, rfl, q0, q1, q2, q3, q4, q5, q6, q7⟩ := H.s.at m hlt
        have HTA := hide (l5Targets_any (some ⟨b, off, none⟩) n cap ms (ms.getD m zMd) wr H HVL.out h4 (H.d m hlt) (by rw [← pmS_at (by omega)]; exact HVL.out m (by omega)))
        have HEP := hide (pmS_at (ms := ms) (i := m) (by omega))
        have HG := hide (And.intro hv S)
        generalize ms.getD m zMd = M at *
        clear H hv S
        go_wp2_with fail
        refine HTA.out.mono ?_
        rintro e w2 ⟨hb2, H2⟩
        have S2 := HG.out.2.below hb2
        clear hb2 HTA q0 q1 q2 q3 q4 q5 q6 q7
        rcases H2 with ⟨hno, v, rfl⟩ | ⟨hyes, at', ct', rfl, _⟩
        · have HP := hide (lkc_5 (d := d) (k := k) (w := c) (s := s) HS4.out (fun hi => hno (by rw [← HEP.out]; exact hi m (by omega))))
          have HS := hide S2
          have u0 : w2.cell? ⟨w.heap.size + 1 + 1, 0, none⟩ = some (.slice none 0 0) := S2.k2.cell 0
          have u1 : w2.cell? ⟨w.heap.size + 1 + 1, 1, none⟩ = some (.int .i64 0) := S2.k2.cell 1
          have u2 : w2.cell? ⟨w.heap.size + 1 + 1, 2, none⟩ = some (.slice none 0 0) := S2.k2.cell 2
          have u3 : w2.cell? ⟨w.heap.size + 1 + 1, 3, none⟩ = some (.int .i64 0) := S2.k2.cell 3
          have u4 : w2.cell? ⟨w.heap.size + 1 + 1, 4, none⟩ = some (.int .i64 0) := S2.k2.cell 4
          have u5 : w2.cell? ⟨w.heap.size + 1 + 1, 5, none⟩ = some (.slice none 0 0) := S2.k2.cell 5
          have p0 : w2.cell? ⟨w.heap.size + 1, 0, none⟩ = some (.slice none 0 0) := S2.k1.cell 0
          have p1 : w2.cell? ⟨w.heap.size + 1, 1, none⟩ = some (.int .i64 0) := S2.k1.cell 1
          have p2 : w2.cell? ⟨w.heap.size + 1, 2, none⟩ = some (.slice none 0 0) := S2.k1.cell 2
          have p3 : w2.cell? ⟨w.heap.size + 1, 3, none⟩ = some (.int .i64 0) := S2.k1.cell 3
          have p4 : w2.cell? ⟨w.heap.size + 1, 4, none⟩ = some (.int .i64 0) := S2.k1.cell 4
          have p5 : w2.cell? ⟨w.heap.size + 1, 5, none⟩ = some (.slice none 0 0) := S2.k1.cell 5
          have y0 : w2.frozen? ⟨w.heap.size + 1, 0, none⟩ = false := S2.k1.frozen 0
          have y1 : w2.frozen? ⟨w.heap.size + 1, 1, none⟩ = false := S2.k1.frozen 1
          have y2 : w2.frozen? ⟨w.heap.size + 1, 2, none⟩ = false := S2.k1.frozen 2
          have y3 : w2.frozen? ⟨w.heap.size + 1, 3, none⟩ = false := S2.k1.frozen 3
          have y4 : w2.frozen? ⟨w.heap.size + 1, 4, none⟩ = false := S2.k1.frozen 4
          have y5 : w2.frozen? ⟨w.heap.size + 1, 5, none⟩ = false := S2.k1.frozen 5
          clear S2 hno
          go_wp2
          exact link_no HS.out HP.out (by decide) _ rfl rfl
        · have HV2 := hide (show ∀ j, j < m + 1 → tgOk (pmS ms) ((pmS ms).getD j zP) from fun j hj => by
            by_cases e : j = m
            · subst e; rw [HEP.out]; exact hyes
            · exact HG.out.1 j (by omega))
          have HS := hide S2
          clear S2 hyes
          go_wp2
          go_roundw
          case rel => exact ⟨m + 1, by omega, by go_num, HV2.out, HS.out⟩
          case measure => simp [intOf]; omega
      · have hlt' : ¬ (m : Int) < (n : Int) := by omega
        have HI := hide (show imps (pmS ms) from fun i hi => hv i (by omega))
        have HTL := hide (l5TooLong_any a n cap ms s c k d wr (HH.out.below S.be))
        obtain ⟨B, hB⟩ : ∃ B, B = decide (0 < s ∧ ¬ shrt (pmS ms) c) := ⟨_, rfl⟩
        rw [← hB] at HTL
        have HB := hide hB
        have HS := hide S
        have c0 : wr.cell? ⟨w.heap.size, 0, none⟩ = some (.int .i64 s) := S.k0.cell 0
        have c1 : wr.cell? ⟨w.heap.size, 1, none⟩ = some (.int .i64 c) := S.k0.cell 1
        have c2 : wr.cell? ⟨w.heap.size, 2, none⟩ = some (.int .i64 k) := S.k0.cell 2
        have c3 : wr.cell? ⟨w.heap.size, 3, none⟩ = some (.int .i64 d) := S.k0.cell 3
        clear S hv hB
        go_wp2_with fail
        refine HTL.out.mono ?_
        rintro e w3 ⟨rfl, hb3⟩
        have S3 := HS.out.below hb3
        clear hb3 HTL HS c0 c1 c2 c3
        cases B with
        | true =>
          have HP := hide (lkc_6 (d := d) (k := k) HS4.out HI.out (of_decide_eq_true HB.out.symm))
          have HS := hide S3
          have u0 : w3.cell? ⟨w.heap.size + 1 + 1, 0, none⟩ = some (.slice none 0 0) := S3.k2.cell 0
          have u1 : w3.cell? ⟨w.heap.size + 1 + 1, 1, none⟩ = some (.int .i64 0) := S3.k2.cell 1
          have u2 : w3.cell? ⟨w.heap.size + 1 + 1, 2, none⟩ = some (.slice none 0 0) := S3.k2.cell 2
          have u3 : w3.cell? ⟨w.heap.size + 1 + 1, 3, none⟩ = some (.int .i64 0) := S3.k2.cell 3
          have u4 : w3.cell? ⟨w.heap.size + 1 + 1, 4, none⟩ = some (.int .i64 0) := S3.k2.cell 4
          have u5 : w3.cell? ⟨w.heap.size + 1 + 1, 5, none⟩ = some (.slice none 0 0) := S3.k2.cell 5
          have p0 : w3.cell? ⟨w.heap.size + 1, 0, none⟩ = some (.slice none 0 0) := S3.k1.cell 0
          have p1 : w3.cell? ⟨w.heap.size + 1, 1, none⟩ = some (.int .i64 0) := S3.k1.cell 1
          have p2 : w3.cell? ⟨w.heap.size + 1, 2, none⟩ = some (.slice none 0 0) := S3.k1.cell 2
          have p3 : w3.cell? ⟨w.heap.size + 1, 3, none⟩ = some (.int .i64 0) := S3.k1.cell 3
          have p4 : w3.cell? ⟨w.heap.size + 1, 4, none⟩ = some (.int .i64 0) := S3.k1.cell 4
          have p5 : w3.cell? ⟨w.heap.size + 1, 5, none⟩ = some (.slice none 0 0) := S3.k1.cell 5
          have y0 : w3.frozen? ⟨w.heap.size + 1, 0, none⟩ = false := S3.k1.frozen 0
          have y1 : w3.frozen? ⟨w.heap.size + 1, 1, none⟩ = false := S3.k1.frozen 1
          have y2 : w3.frozen? ⟨w.heap.size + 1, 2, none⟩ = false := S3.k1.frozen 2
          have y3 : w3.frozen? ⟨w.heap.size + 1, 3, none⟩ = false := S3.k1.frozen 3
          have y4 : w3.frozen? ⟨w.heap.size + 1, 4, none⟩ = false := S3.k1.frozen 4
          have y5 : w3.frozen? ⟨w.heap.size + 1, 5, none⟩ = false := S3.k1.frozen 5
          clear S3
          go_wp2
          exact link_no HS.out HP.out (by decide) _ rfl rfl
        | false =>
          have HN6 := hide (of_decide_eq_false HB.out.symm)
          have HLA := hide (l5Lay_any a n cap ms s c k d w3 (HH.out.below S3.be) h4 HCF.out HVL.out HI.out)
          have HS := hide S3
          have c0 : w3.cell? ⟨w.heap.size, 0, none⟩ = some (.int .i64 s) := S3.k0.cell 0
          have c1 : w3.cell? ⟨w.heap.size, 1, none⟩ = some (.int .i64 c) := S3.k0.cell 1
          have c2 : w3.cell? ⟨w.heap.size, 2, none⟩ = some (.int .i64 k) := S3.k0.cell 2
          have c3 : w3.cell? ⟨w.heap.size, 3, none⟩ = some (.int .i64 d) := S3.k0.cell 3
          clear S3
          go_wp2_with fail
          refine HLA.out.mono ?_
          rintro e w4 ⟨hb4, a0, d0, xs, a2, d2, a5, d5, ts, rfl, LO⟩
          have S4 := HS.out.below hb4
          obtain ⟨L, hL⟩ : ∃ L, L = lay (pmS ms) s c k := ⟨_, rfl⟩
          rw [← hL] at LO ⊢
          have HLL := hide hL
          have al : Below w4.heap.size w4 (w4.alloc (.cells #[.slice a0 xs.length d0, .int .i64 L.stack, .slice a2 L.slots.length d2, .int .i64 L.flash, .int .i64 L.ram, .slice a5 ts.length d5] 36)) := (Below.refl _ _).alloc (Nat.le_refl _) _
          have kL := Blk.new w4 #[.slice a0 xs.length d0, .int .i64 L.stack, .slice a2 L.slots.length d2, .int .i64 L.flash, .int .i64 L.ram, .slice a5 ts.length d5] 36
          have S5 := S4.below al
          have LO5 : LayO (w4.alloc (.cells #[.slice a0 xs.length d0, .int .i64 L.stack, .slice a2 L.slots.length d2, .int .i64 L.flash, .int .i64 L.ram, .slice a5 ts.length d5] 36)) w3.heap.size L a0 d0 xs a2 d2 a5 d5 ts := ⟨LO.p.below al, LO.ps, LO.s.below al, LO.t.below al, LO.tt, LO.sp⟩
          have hs34 := hb4.size
          have hs3 := HS.out.k2.lt
          have l0 : (w4.alloc (.cells #[.slice a0 xs.length d0, .int .i64 L.stack, .slice a2 L.slots.length d2, .int .i64 L.flash, .int .i64 L.ram, .slice a5 ts.length d5] 36)).cell? ⟨w4.heap.size, 0, none⟩ = some (.slice a0 xs.length d0) := kL.cell 0
          have l1 : (w4.alloc (.cells #[.slice a0 xs.length d0, .int .i64 L.stack, .slice a2 L.slots.length d2, .int .i64 L.flash, .int .i64 L.ram, .slice a5 ts.length d5] 36)).cell? ⟨w4.heap.size, 1, none⟩ = some (.int .i64 L.stack) := kL.cell 1
          have l2 : (w4.alloc (.cells #[.slice a0 xs.length d0, .int .i64 L.stack, .slice a2 L.slots.length d2, .int .i64 L.flash, .int .i64 L.ram, .slice a5 ts.length d5] 36)).cell? ⟨w4.heap.size, 2, none⟩ = some (.slice a2 L.slots.length d2) := kL.cell 2
          have l3 : (w4.alloc (.cells #[.slice a0 xs.length d0, .int .i64 L.stack, .slice a2 L.slots.length d2, .int .i64 L.flash, .int .i64 L.ram, .slice a5 ts.length d5] 36)).cell? ⟨w4.heap.size, 3, none⟩ = some (.int .i64 L.flash) := kL.cell 3
          have l4 : (w4.alloc (.cells #[.slice a0 xs.length d0, .int .i64 L.stack, .slice a2 L.slots.length d2, .int .i64 L.flash, .int .i64 L.ram, .slice a5 ts.length d5] 36)).cell? ⟨w4.heap.size, 4, none⟩ = some (.int .i64 L.ram) := kL.cell 4
          have l5 : (w4.alloc (.cells #[.slice a0 xs.length d0, .int .i64 L.stack, .slice a2 L.slots.length d2, .int .i64 L.flash, .int .i64 L.ram, .slice a5 ts.length d5] 36)).cell? ⟨w4.heap.size, 5, none⟩ = some (.slice a5 ts.length d5) := kL.cell 5
          have HS5 := hide (And.intro S5 LO5)
          have hz5 : (w4.alloc (.cells #[.slice a0 xs.length d0, .int .i64 L.stack, .slice a2 L.slots.length d2, .int .i64 L.flash, .int .i64 L.ram, .slice a5 ts.length d5] 36)).heap.size = w4.heap.size + 1 := by simp
          clear hb4 S4 LO al kL hL HS HLA c0 c1 c2 c3
          unfold layV
          by_cases h7 : 16384 < L.flash
          · have HP := hide (lkc_7 (d := d) HS4.out HI.out HN6.out (by rw [← HLL.out]; exact h7))
            have u0 : (w4.alloc (.cells #[.slice a0 xs.length d0, .int .i64 L.stack, .slice a2 L.slots.length d2, .int .i64 L.flash, .int .i64 L.ram, .slice a5 ts.length d5] 36)).cell? ⟨w.heap.size + 1 + 1, 0, none⟩ = some (.slice none 0 0) := S5.k2.cell 0
            have u1 : (w4.alloc (.cells #[.slice a0 xs.length d0, .int .i64 L.stack, .slice a2 L.slots.length d2, .int .i64 L.flash, .int .i64 L.ram, .slice a5 ts.length d5] 36)).cell? ⟨w.heap.size + 1 + 1, 1, none⟩ = some (.int .i64 0) := S5.k2.cell 1
            have u2 : (w4.alloc (.cells #[.slice a0 xs.length d0, .int .i64 L.stack, .slice a2 L.slots.length d2, .int .i64 L.flash, .int .i64 L.ram, .slice a5 ts.length d5] 36)).cell? ⟨w.heap.size + 1 + 1, 2, none⟩ = some (.slice none 0 0) := S5.k2.cell 2
            have u3 : (w4.alloc (.cells #[.slice a0 xs.length d0, .int .i64 L.stack, .slice a2 L.slots.length d2, .int .i64 L.flash, .int .i64 L.ram, .slice a5 ts.length d5] 36)).cell? ⟨w.heap.size + 1 + 1, 3, none⟩ = some (.int .i64 0) := S5.k2.cell 3
            have u4 : (w4.alloc (.cells #[.slice a0 xs.length d0, .int .i64 L.stack, .slice a2 L.slots.length d2, .int .i64 L.flash, .int .i64 L.ram, .slice a5 ts.length d5] 36)).cell? ⟨w.heap.size + 1 + 1, 4, none⟩ = some (.int .i64 0) := S5.k2.cell 4
            have u5 : (w4.alloc (.cells #[.slice a0 xs.length d0, .int .i64 L.stack, .slice a2 L.slots.length d2, .int .i64 L.flash, .int .i64 L.ram, .slice a5 ts.length d5] 36)).cell? ⟨w.heap.size + 1 + 1, 5, none⟩ = some (.slice none 0 0) := S5.k2.cell 5
            have p0 : (w4.alloc (.cells #[.slice a0 xs.length d0, .int .i64 L.stack, .slice a2 L.slots.length d2, .int .i64 L.flash, .int .i64 L.ram, .slice a5 ts.length d5] 36)).cell? ⟨w.heap.size + 1, 0, none⟩ = some (.slice none 0 0) := S5.k1.cell 0
            have p1 : (w4.alloc (.cells #[.slice a0 xs.length d0, .int .i64 L.stack, .slice a2 L.slots.length d2, .int .i64 L.flash, .int .i64 L.ram, .slice a5 ts.length d5] 36)).cell? ⟨w.heap.size + 1, 1, none⟩ = some (.int .i64 0) := S5.k1.cell 1
            have p2 : (w4.alloc (.cells #[.slice a0 xs.length d0, .int .i64 L.stack, .slice a2 L.slots.length d2, .int .i64 L.flash, .int .i64 L.ram, .slice a5 ts.length d5] 36)).cell? ⟨w.heap.size + 1, 2, none⟩ = some (.slice none 0 0) := S5.k1.cell 2
            have p3 : (w4.alloc (.cells #[.slice a0 xs.length d0, .int .i64 L.stack, .slice a2 L.slots.length d2, .int .i64 L.flash, .int .i64 L.ram, .slice a5 ts.length d5] 36)).cell? ⟨w.heap.size + 1, 3, none⟩ = some (.int .i64 0) := S5.k1.cell 3
            have p4 : (w4.alloc (.cells #[.slice a0 xs.length d0, .int .i64 L.stack, .slice a2 L.slots.length d2, .int .i64 L.flash, .int .i64 L.ram, .slice a5 ts.length d5] 36)).cell? ⟨w.heap.size + 1, 4, none⟩ = some (.int .i64 0) := S5.k1.cell 4
            have p5 : (w4.alloc (.cells #[.slice a0 xs.length d0, .int .i64 L.stack, .slice a2 L.slots.length d2, .int .i64 L.flash, .int .i64 L.ram, .slice a5 ts.length d5] 36)).cell? ⟨w.heap.size + 1, 5, none⟩ = some (.slice none 0 0) := S5.k1.cell 5
            have y0 : (w4.alloc (.cells #[.slice a0 xs.length d0, .int .i64 L.stack, .slice a2 L.slots.length d2, .int .i64 L.flash, .int .i64 L.ram, .slice a5 ts.length d5] 36)).frozen? ⟨w.heap.size + 1, 0, none⟩ = false := S5.k1.frozen 0
            have y1 : (w4.alloc (.cells #[.slice a0 xs.length d0, .int .i64 L.stack, .slice a2 L.slots.length d2, .int .i64 L.flash, .int .i64 L.ram, .slice a5 ts.length d5] 36)).frozen? ⟨w.heap.size + 1, 1, none⟩ = false := S5.k1.frozen 1
            have y2 : (w4.alloc (.cells #[.slice a0 xs.length d0, .int .i64 L.stack, .slice a2 L.slots.length d2, .int .i64 L.flash, .int .i64 L.ram, .slice a5 ts.length d5] 36)).frozen? ⟨w.heap.size + 1, 2, none⟩ = false := S5.k1.frozen 2
            have y3 : (w4.alloc (.cells #[.slice a0 xs.length d0, .int .i64 L.stack, .slice a2 L.slots.length d2, .int .i64 L.flash, .int .i64 L.ram, .slice a5 ts.length d5] 36)).frozen? ⟨w.heap.size + 1, 3, none⟩ = false := S5.k1.frozen 3
            have y4 : (w4.alloc (.cells #[.slice a0 xs.length d0, .int .i64 L.stack, .slice a2 L.slots.length d2, .int .i64 L.flash, .int .i64 L.ram, .slice a5 ts.length d5] 36)).frozen? ⟨w.heap.size + 1, 4, none⟩ = false := S5.k1.frozen 4
            have y5 : (w4.alloc (.cells #[.slice a0 xs.length d0, .int .i64 L.stack, .slice a2 L.slots.length d2, .int .i64 L.flash, .int .i64 L.ram, .slice a5 ts.length d5] 36)).frozen? ⟨w.heap.size + 1, 5, none⟩ = false := S5.k1.frozen 5
            clear S5 LO5
            go_wp2
            exact link_no HS5.out.1 HP.out (by decide) _ rfl rfl
          · have h7' : ¬ 16384 < L.flash := h7
            by_cases h8 : 16384 < L.ram
            · have HP := hide (lkc_8 (d := d) HS4.out HI.out HN6.out (by rw [← HLL.out]; exact h7) (by rw [← HLL.out]; exact h8))
              have u0 : (w4.alloc (.cells #[.slice a0 xs.length d0, .int .i64 L.stack, .slice a2 L.slots.length d2, .int .i64 L.flash, .int .i64 L.ram, .slice a5 ts.length d5] 36)).cell? ⟨w.heap.size + 1 + 1, 0, none⟩ = some (.slice none 0 0) := S5.k2.cell 0
              have u1 : (w4.alloc (.cells #[.slice a0 xs.length d0, .int .i64 L.stack, .slice a2 L.slots.length d2, .int .i64 L.flash, .int .i64 L.ram, .slice a5 ts.length d5] 36)).cell? ⟨w.heap.size + 1 + 1, 1, none⟩ = some (.int .i64 0) := S5.k2.cell 1
              have u2 : (w4.alloc (.cells #[.slice a0 xs.length d0, .int .i64 L.stack, .slice a2 L.slots.length d2, .int .i64 L.flash, .int .i64 L.ram, .slice a5 ts.length d5] 36)).cell? ⟨w.heap.size + 1 + 1, 2, none⟩ = some (.slice none 0 0) := S5.k2.cell 2
              have u3 : (w4.alloc (.cells #[.slice a0 xs.length d0, .int .i64 L.stack, .slice a2 L.slots.length d2, .int .i64 L.flash, .int .i64 L.ram, .slice a5 ts.length d5] 36)).cell? ⟨w.heap.size + 1 + 1, 3, none⟩ = some (.int .i64 0) := S5.k2.cell 3
              have u4 : (w4.alloc (.cells #[.slice a0 xs.length d0, .int .i64 L.stack, .slice a2 L.slots.length d2, .int .i64 L.flash, .int .i64 L.ram, .slice a5 ts.length d5] 36)).cell? ⟨w.heap.size + 1 + 1, 4, none⟩ = some (.int .i64 0) := S5.k2.cell 4
              have u5 : (w4.alloc (.cells #[.slice a0 xs.length d0, .int .i64 L.stack, .slice a2 L.slots.length d2, .int .i64 L.flash, .int .i64 L.ram, .slice a5 ts.length d5] 36)).cell? ⟨w.heap.size + 1 + 1, 5, none⟩ = some (.slice none 0 0) := S5.k2.cell 5
              have p0 : (w4.alloc (.cells #[.slice a0 xs.length d0, .int .i64 L.stack, .slice a2 L.slots.length d2, .int .i64 L.flash, .int .i64 L.ram, .slice a5 ts.length d5] 36)).cell? ⟨w.heap.size + 1, 0, none⟩ = some (.slice none 0 0) := S5.k1.cell 0
              have p1 : (w4.alloc (.cells #[.slice a0 xs.length d0, .int .i64 L.stack, .slice a2 L.slots.length d2, .int .i64 L.flash, .int .i64 L.ram, .slice a5 ts.length d5] 36)).cell? ⟨w.heap.size + 1, 1, none⟩ = some (.int .i64 0) := S5.k1.cell 1
              have p2 : (w4.alloc (.cells #[.slice a0 xs.length d0, .int .i64 L.stack, .slice a2 L.slots.length d2, .int .i64 L.flash, .int .i64 L.ram, .slice a5 ts.length d5] 36)).cell? ⟨w.heap.size + 1, 2, none⟩ = some (.slice none 0 0) := S5.k1.cell 2
              have p3 : (w4.alloc (.cells #[.slice a0 xs.length d0, .int .i64 L.stack, .slice a2 L.slots.length d2, .int .i64 L.flash, .int .i64 L.ram, .slice a5 ts.length d5] 36)).cell? ⟨w.heap.size + 1, 3, none⟩ = some (.int .i64 0) := S5.k1.cell 3
              have p4 : (w4.alloc (.cells #[.slice a0 xs.length d0, .int .i64 L.stack, .slice a2 L.slots.length d2, .int .i64 L.flash, .int .i64 L.ram, .slice a5 ts.length d5] 36)).cell? ⟨w.heap.size + 1, 4, none⟩ = some (.int .i64 0) := S5.k1.cell 4
              have p5 : (w4.alloc (.cells #[.slice a0 xs.length d0, .int .i64 L.stack, .slice a2 L.slots.length d2, .int .i64 L.flash, .int .i64 L.ram, .slice a5 ts.length d5] 36)).cell? ⟨w.heap.size + 1, 5, none⟩ = some (.slice none 0 0) := S5.k1.cell 5
              have y0 : (w4.alloc (.cells #[.slice a0 xs.length d0, .int .i64 L.stack, .slice a2 L.slots.length d2, .int .i64 L.flash, .int .i64 L.ram, .slice a5 ts.length d5] 36)).frozen? ⟨w.heap.size + 1, 0, none⟩ = false := S5.k1.frozen 0
              have y1 : (w4.alloc (.cells #[.slice a0 xs.length d0, .int .i64 L.stack, .slice a2 L.slots.length d2, .int .i64 L.flash, .int .i64 L.ram, .slice a5 ts.length d5] 36)).frozen? ⟨w.heap.size + 1, 1, none⟩ = false := S5.k1.frozen 1
              have y2 : (w4.alloc (.cells #[.slice a0 xs.length d0, .int .i64 L.stack, .slice a2 L.slots.length d2, .int .i64 L.flash, .int .i64 L.ram, .slice a5 ts.length d5] 36)).frozen? ⟨w.heap.size + 1, 2, none⟩ = false := S5.k1.frozen 2
              have y3 : (w4.alloc (.cells #[.slice a0 xs.length d0, .int .i64 L.stack, .slice a2 L.slots.length d2, .int .i64 L.flash, .int .i64 L.ram, .slice a5 ts.length d5] 36)).frozen? ⟨w.heap.size + 1, 3, none⟩ = false := S5.k1.frozen 3
              have y4 : (w4.alloc (.cells #[.slice a0 xs.length d0, .int .i64 L.stack, .slice a2 L.slots.length d2, .int .i64 L.flash, .int .i64 L.ram, .slice a5 ts.length d5] 36)).frozen? ⟨w.heap.size + 1, 4, none⟩ = false := S5.k1.frozen 4
              have y5 : (w4.alloc (.cells #[.slice a0 xs.length d0, .int .i64 L.stack, .slice a2 L.slots.length d2, .int .i64 L.flash, .int .i64 L.ram, .slice a5 ts.length d5] 36)).frozen? ⟨w.heap.size + 1, 5, none⟩ = false := S5.k1.frozen 5
              clear S5 LO5
              go_wp2
              exact link_no HS5.out.1 HP.out (by decide) _ rfl rfl
            · have HP := hide (lkc_0 (d := d) HS4.out HI.out HN6.out (by rw [← HLL.out]; exact h7) (by rw [← HLL.out]; exact h8))
              have p0 : (w4.alloc (.cells #[.slice a0 xs.length d0, .int .i64 L.stack, .slice a2 L.slots.length d2, .int .i64 L.flash, .int .i64 L.ram, .slice a5 ts.length d5] 36)).cell? ⟨w.heap.size + 1, 0, none⟩ = some (.slice none 0 0) := S5.k1.cell 0
              have p1 : (w4.alloc (.cells #[.slice a0 xs.length d0, .int .i64 L.stack, .slice a2 L.slots.length d2, .int .i64 L.flash, .int .i64 L.ram, .slice a5 ts.length d5] 36)).cell? ⟨w.heap.size + 1, 1, none⟩ = some (.int .i64 0) := S5.k1.cell 1
              have p2 : (w4.alloc (.cells #[.slice a0 xs.length d0, .int .i64 L.stack, .slice a2 L.slots.length d2, .int .i64 L.flash, .int .i64 L.ram, .slice a5 ts.length d5] 36)).cell? ⟨w.heap.size + 1, 2, none⟩ = some (.slice none 0 0) := S5.k1.cell 2
              have p3 : (w4.alloc (.cells #[.slice a0 xs.length d0, .int .i64 L.stack, .slice a2 L.slots.length d2, .int .i64 L.flash, .int .i64 L.ram, .slice a5 ts.length d5] 36)).cell? ⟨w.heap.size + 1, 3, none⟩ = some (.int .i64 0) := S5.k1.cell 3
              have p4 : (w4.alloc (.cells #[.slice a0 xs.length d0, .int .i64 L.stack, .slice a2 L.slots.length d2, .int .i64 L.flash, .int .i64 L.ram, .slice a5 ts.length d5] 36)).cell? ⟨w.heap.size + 1, 4, none⟩ = some (.int .i64 0) := S5.k1.cell 4
              have p5 : (w4.alloc (.cells #[.slice a0 xs.length d0, .int .i64 L.stack, .slice a2 L.slots.length d2, .int .i64 L.flash, .int .i64 L.ram, .slice a5 ts.length d5] 36)).cell? ⟨w.heap.size + 1, 5, none⟩ = some (.slice none 0 0) := S5.k1.cell 5
              have y0 : (w4.alloc (.cells #[.slice a0 xs.length d0, .int .i64 L.stack, .slice a2 L.slots.length d2, .int .i64 L.flash, .int .i64 L.ram, .slice a5 ts.length d5] 36)).frozen? ⟨w.heap.size + 1, 0, none⟩ = false := S5.k1.frozen 0
              have y1 : (w4.alloc (.cells #[.slice a0 xs.length d0, .int .i64 L.stack, .slice a2 L.slots.length d2, .int .i64 L.flash, .int .i64 L.ram, .slice a5 ts.length d5] 36)).frozen? ⟨w.heap.size + 1, 1, none⟩ = false := S5.k1.frozen 1
              have y2 : (w4.alloc (.cells #[.slice a0 xs.length d0, .int .i64 L.stack, .slice a2 L.slots.length d2, .int .i64 L.flash, .int .i64 L.ram, .slice a5 ts.length d5] 36)).frozen? ⟨w.heap.size + 1, 2, none⟩ = false := S5.k1.frozen 2
              have y3 : (w4.alloc (.cells #[.slice a0 xs.length d0, .int .i64 L.stack, .slice a2 L.slots.length d2, .int .i64 L.flash, .int .i64 L.ram, .slice a5 ts.length d5] 36)).frozen? ⟨w.heap.size + 1, 3, none⟩ = false := S5.k1.frozen 3
              have y4 : (w4.alloc (.cells #[.slice a0 xs.length d0, .int .i64 L.stack, .slice a2 L.slots.length d2, .int .i64 L.flash, .int .i64 L.ram, .slice a5 ts.length d5] 36)).frozen? ⟨w.heap.size + 1, 4, none⟩ = false := S5.k1.frozen 4
              have y5 : (w4.alloc (.cells #[.slice a0 xs.length d0, .int .i64 L.stack, .slice a2 L.slots.length d2, .int .i64 L.flash, .int .i64 L.ram, .slice a5 ts.length d5] 36)).frozen? ⟨w.heap.size + 1, 5, none⟩ = false := S5.k1.frozen 5
              clear S5 LO5
              go_wp2
              refine link_end HS5.out.1.k1 _ _ _ _ _ _ 0 _ _ rfl rfl ?_
              obtain ⟨S5, LO5⟩ := HS5.out
              have t := turn_st6 (w4.alloc (.cells #[.slice a0 xs.length d0, .int .i64 L.stack, .slice a2 L.slots.length d2, .int .i64 L.flash, .int .i64 L.ram, .slice a5 ts.length d5] 36)) (w.heap.size + 1) (.slice a0 xs.length d0) (.int .i64 L.stack) (.slice a2 L.slots.length d2) (.int .i64 L.flash) (.int .i64 L.ram) (.slice a5 ts.length d5)
              refine ⟨below_turn S5.be t (fun j hj => by have e : j = w.heap.size + 1 := hj; omega) S5.be.size, a0, d0, xs, a2, d2, a5, d5, ts, ?_, ?_⟩
              · unfold lkL; rw [if_pos HP.out, HP.out, ← HLL.out]; rfl
              · unfold lkL; rw [if_pos HP.out, ← HLL.out]
                have hno : ∀ k, w3.heap.size ≤ k → ¬ (k = w.heap.size + 1) := fun k hk e => by omega
                exact ⟨(LO5.p.kept t (fun k hk => hno k (LO5.p.lt.1 k hk).1) (fun x hx k hk => hno k (LO5.p.lt.2 x hx k hk).1)).mono (by omega) (by omega), LO5.ps, (LO5.s.kept t (fun k hk => hno k (LO5.s.lt k hk).1)).mono (by omega), (LO5.t.kept t (fun k hk => hno k (LO5.t.lt.1 k hk).1) (fun x hx k hk => hno k (LO5.t.lt.2 x hx k hk).1)).mono (by omega) (by omega), LO5.tt, LO5.sp⟩
  · have hV0' : (V != 0) = true := by simp [hV0]
    have HP := hide (lkc_1 (ps := pmS ms) HV.out.symm hV0)
    have HS := hide S1
    have u0 : w1.cell? ⟨w.heap.size + 1 + 1, 0, none⟩ = some (.slice none 0 0) := S1.k2.cell 0
    have u1 : w1.cell? ⟨w.heap.size + 1 + 1, 1, none⟩ = some (.int .i64 0) := S1.k2.cell 1
    have u2 : w1.cell? ⟨w.heap.size + 1 + 1, 2, none⟩ = some (.slice none 0 0) := S1.k2.cell 2
    have u3 : w1.cell? ⟨w.heap.size + 1 + 1, 3, none⟩ = some (.int .i64 0) := S1.k2.cell 3
    have u4 : w1.cell? ⟨w.heap.size + 1 + 1, 4, none⟩ = some (.int .i64 0) := S1.k2.cell 4
    have u5 : w1.cell? ⟨w.heap.size + 1 + 1, 5, none⟩ = some (.slice none 0 0) := S1.k2.cell 5
    have p0 : w1.cell? ⟨w.heap.size + 1, 0, none⟩ = some (.slice none 0 0) := S1.k1.cell 0
    have p1 : w1.cell? ⟨w.heap.size + 1, 1, none⟩ = some (.int .i64 0) := S1.k1.cell 1
    have p2 : w1.cell? ⟨w.heap.size + 1, 2, none⟩ = some (.slice none 0 0) := S1.k1.cell 2
    have p3 : w1.cell? ⟨w.heap.size + 1, 3, none⟩ = some (.int .i64 0) := S1.k1.cell 3
    have p4 : w1.cell? ⟨w.heap.size + 1, 4, none⟩ = some (.int .i64 0) := S1.k1.cell 4
    have p5 : w1.cell? ⟨w.heap.size + 1, 5, none⟩ = some (.slice none 0 0) := S1.k1.cell 5
    have y0 : w1.frozen? ⟨w.heap.size + 1, 0, none⟩ = false := S1.k1.frozen 0
    have y1 : w1.frozen? ⟨w.heap.size + 1, 1, none⟩ = false := S1.k1.frozen 1
    have y2 : w1.frozen? ⟨w.heap.size + 1, 2, none⟩ = false := S1.k1.frozen 2
    have y3 : w1.frozen? ⟨w.heap.size + 1, 3, none⟩ = false := S1.k1.frozen 3
    have y4 : w1.frozen? ⟨w.heap.size + 1, 4, none⟩ = false := S1.k1.frozen 4
    have y5 : w1.frozen? ⟨w.heap.size + 1, 5, none⟩ = false := S1.k1.frozen 5
    have c0 : w1.cell? ⟨w.heap.size, 0, none⟩ = some (.int .i64 s) := S1.k0.cell 0
    have c1 : w1.cell? ⟨w.heap.size, 1, none⟩ = some (.int .i64 c) := S1.k0.cell 1
    have c2 : w1.cell? ⟨w.heap.size, 2, none⟩ = some (.int .i64 k) := S1.k0.cell 2
    have c3 : w1.cell? ⟨w.heap.size, 3, none⟩ = some (.int .i64 d) := S1.k0.cell 3
    clear S1
    go_wp2_with fail
    go_region_law (first
      | (go_simp; go_at_call 159; refine (HSND.out _ (by first | exact HS.out.be | exact HS.out.drew.be)).mono ?_; rintro e w12 ⟨rfl, hb12⟩; have HE2 := hide (show Kst w w12 s c k d from (by first | exact HS.out.below hb12 | exact HS.out.drew.below hb12)); have vu0 : w12.cell? ⟨w.heap.size + 1 + 1, 0, none⟩ = some (.slice none 0 0) := HE2.out.k2.cell 0; have vu1 : w12.cell? ⟨w.heap.size + 1 + 1, 1, none⟩ = some (.int .i64 0) := HE2.out.k2.cell 1; have vu2 : w12.cell? ⟨w.heap.size + 1 + 1, 2, none⟩ = some (.slice none 0 0) := HE2.out.k2.cell 2; have vu3 : w12.cell? ⟨w.heap.size + 1 + 1, 3, none⟩ = some (.int .i64 0) := HE2.out.k2.cell 3; have vu4 : w12.cell? ⟨w.heap.size + 1 + 1, 4, none⟩ = some (.int .i64 0) := HE2.out.k2.cell 4; have vu5 : w12.cell? ⟨w.heap.size + 1 + 1, 5, none⟩ = some (.slice none 0 0) := HE2.out.k2.cell 5; have vp0 : w12.cell? ⟨w.heap.size + 1, 0, none⟩ = some (.slice none 0 0) := HE2.out.k1.cell 0; have vp1 : w12.cell? ⟨w.heap.size + 1, 1, none⟩ = some (.int .i64 0) := HE2.out.k1.cell 1; have vp2 : w12.cell? ⟨w.heap.size + 1, 2, none⟩ = some (.slice none 0 0) := HE2.out.k1.cell 2; have vp3 : w12.cell? ⟨w.heap.size + 1, 3, none⟩ = some (.int .i64 0) := HE2.out.k1.cell 3; have vp4 : w12.cell? ⟨w.heap.size + 1, 4, none⟩ = some (.int .i64 0) := HE2.out.k1.cell 4; have vp5 : w12.cell? ⟨w.heap.size + 1, 5, none⟩ = some (.slice none 0 0) := HE2.out.k1.cell 5; have vy0 : w12.frozen? ⟨w.heap.size + 1, 0, none⟩ = false := HE2.out.k1.frozen 0; have vy1 : w12.frozen? ⟨w.heap.size + 1, 1, none⟩ = false := HE2.out.k1.frozen 1; have vy2 : w12.frozen? ⟨w.heap.size + 1, 2, none⟩ = false := HE2.out.k1.frozen 2; have vy3 : w12.frozen? ⟨w.heap.size + 1, 3, none⟩ = false := HE2.out.k1.frozen 3; have vy4 : w12.frozen? ⟨w.heap.size + 1, 4, none⟩ = false := HE2.out.k1.frozen 4; have vy5 : w12.frozen? ⟨w.heap.size + 1, 5, none⟩ = false := HE2.out.k1.frozen 5; have vc0 : w12.cell? ⟨w.heap.size, 0, none⟩ = some (.int .i64 s) := HE2.out.k0.cell 0; have vc1 : w12.cell? ⟨w.heap.size, 1, none⟩ = some (.int .i64 c) := HE2.out.k0.cell 1; have vc2 : w12.cell? ⟨w.heap.size, 2, none⟩ = some (.int .i64 k) := HE2.out.k0.cell 2; have vc3 : w12.cell? ⟨w.heap.size, 3, none⟩ = some (.int .i64 d) := HE2.out.k0.cell 3; clear hb12))
    all_goals
      go_wp2
      exact link_no HE2.out HP.out hV0 _ rfl rfl
end Go.Proofs.YtngdgogjlpjjpaeGreat
