import Derived.Test.YtngdgogjlpjjpaeGreatGa18
namespace Go.Proofs.YtngdgogjlpjjpaeGreat
open Go.RowKit
set_option linter.unusedVariables false
set_option linter.unusedSimpArgs false
set_option maxRecDepth 100000

set_option maxHeartbeats 8000000 in
theorem targetsOf_any (a : Option Addr) (n cap : Nat) (ms : List Md) (w : World) (h : MSD w a n cap ms) (hv : vlds (pmS ms)) (hn : n ≤ 4) :
    Calls Tryz.prog 168 #[.slice a n cap] w fun e w' => Below w.heap.size w w' ∧ ((¬ imps (pmS ms) ∧ ∃ v, e = .returned (.tuple #[v, .bool false])) ∨ (imps (pmS ms) ∧ ∃ f, e = .returned (.tuple #[.slice (some ⟨w.heap.size, 0, none⟩) n n, .bool true]) ∧ Tf w' w.heap.size w.heap.size n f ∧ ∀ i, i < n → (f i).1 = tgs (pmS ms) ((pmS ms).getD i zP))) := by
  obtain ⟨iT, hiT, hzT0, hzT1, hzT2⟩ := info_parts infoTB
  obtain ⟨iG, hiG, hzG0, hzG1, hzG2⟩ := info_parts infoG
  have hl := h.s.1
  have hpl : (pmS ms).length = n := by rw [pmS_len, hl]
  have HH := hide h
  have HVL := hide hv
  clear h hv
  go_enter Tryz.func168, Tryz.ntmps168
  go_wp2_with (at_make; refine wpList_make_full _ rfl _ _ 34 rfl w.heap.size 189 iT (.slice none 0 0) 1 Tryz.underlying34 hiT hzT0 hzT1 .i64 .i64 _ _ n rfl rfl rfl rfl (by rw [hzT2]; omega) (by unfold maxLen; omega) (Nat.le_refl _) ?_; intro w1 hown hgr)
  have T0 := made_rows hown w.heap.size
  have B0 := below_grown hgr
  have HT0 := hide (And.intro T0 B0)
  clear hown hgr T0 B0
  go_loopw [16] (fun i wr => ∃ (m : Nat) (f : Nat → TB), m ≤ n ∧ i = .int .i64 m ∧ Tf wr w.heap.size w.heap.size n f ∧ (∀ i, i < n → (f i).1 = if i < m then tgs (pmS ms) ((pmS ms).getD i zP) else []) ∧ (∀ j, j < m → tgOk (pmS ms) ((pmS ms).getD j zP)) ∧ Below w.heap.size w wr) (fun i _ => n - (intOf i).toNat)
  case atStart => exact ⟨0, fun _ => ([], none, 0), Nat.zero_le _, rfl, HT0.out.1, fun i hi => by simp, fun j hj => absurd hj (by omega), HT0.out.2⟩
  case round =>
    clear HT0
    obtain ⟨m, f, hm, rfl, F, hf, hk, B⟩ := hrel
    by_cases hlt : m < n
    · have hlt' : (m : Int) < (n : Int) := by omega
      have H := HH.out.below B
      obtain ⟨b, off, rfl, q0, q1, q2, q3, q4, q5, q6, q7⟩ := H.s.at m hlt
      have hmd := H.d m hlt
      have hvm := HVL.out m (by omega)
      obtain ⟨P, hP⟩ : ∃ P, P = (pmS ms).getD m zP := ⟨_, rfl⟩
      have hPM : P = (ms.getD m zMd).pm := hP.trans (pmS_at (by omega))
      rw [← hP] at hvm
      have vi := (vld_en hvm).2.1
      have eI : (ms.getD m zMd).im = P.ss.length := by rw [hPM]; exact hmd.i.1.symm
      have eS : (ms.getD m zMd).ss = P.ss := by rw [hPM]; rfl
      have HMI := hide (fun (W : World) (hb : Below w.heap.size w W) => (HH.out.d m hlt).i.below hb)
      rw [eI] at q6
      rw [eI, eS] at HMI
      have HP := hide hP
      have HB := hide (And.intro B (And.intro F (And.intro hf hk)))
      generalize ms.getD m zMd = M at *
      generalize M.ia = ia at *
      have al : Below wr.heap.size wr (wr.alloc (.cells #[.string M.nm, .slice M.ta M.tn M.tc, .slice M.ba M.bn M.bc, .slice M.da M.dn M.dc, .int .i64 M.bss, .slice M.ra M.rn M.rc, .slice ia P.ss.length M.ic, .slice M.ea M.en M.ec] 104)) := (Below.refl _ _).alloc (Nat.le_refl _) _
      obtain ⟨g0, g1, g2, g3, g4, g5, g6, g7⟩ := (Blk.new wr #[.string M.nm, .slice M.ta M.tn M.tc, .slice M.ba M.bn M.bc, .slice M.da M.dn M.dc, .int .i64 M.bss, .slice M.ra M.rn M.rc, .slice ia P.ss.length M.ic, .slice M.ea M.en M.ec] 104).eight
      have HAL := hide (And.intro al (F.below al))
      clear B H hmd hP hPM eI eS al hvm F hf hk
      generalize wr = wo at *
      go_wp2_with fail
      go_loopw [24] (fun i wx => ∃ (q : Nat) (f : Nat → TB), q ≤ P.ss.length ∧ i = .int .i64 q ∧ Tf wx w.heap.size w.heap.size n f ∧ (∀ i, i < n → (f i).1 = if i < m then tgs (pmS ms) ((pmS ms).getD i zP) else if i = m then tgN (pmS ms) P q else []) ∧ (∀ j, j < q → (tgOf (pmS ms) (P.ss.getD j zS)).isSome = true) ∧ Turn (fun j => w.heap.size ≤ j) wo wx) (fun i _ => P.ss.length - (intOf i).toNat)
      case atStart => exact ⟨0, f, Nat.zero_le _, rfl, HAL.out.2, fun i hi => by
        rw [HB.out.2.2.1 i hi]
        by_cases e : i < m
        · simp [e]
        · by_cases e2 : i = m
          · simp [e2, tgN]
          · simp [e, e2], fun j hj => absurd hj (by omega), turn_below HAL.out.1⟩
      case round =>
        obtain ⟨q, f', hq, rfl, F, hf, hk, T⟩ := hrel
        have B := below_turn HB.out.1 T (fun j hj => hj) HB.out.1.size
        by_cases hlt2 : q < P.ss.length
        · have hlt2' : (q : Int) < (P.ss.length : Int) := by omega
          obtain ⟨hsl, _, hsz, hcs, _⟩ := HMI.out wr B
          obtain ⟨b2, off2, rfl, hc⟩ := hcs (by omega)
          have c0 := hc q hlt2
          have hss : (P.ss.getD q zS).size ≤ 1048576 := hsz _ (by simp [List.getD_eq_getElem?_getD, hlt2])
          have HR := hide ((HH.out.below B).resI HVL.out hn (P.ss.getD q zS) hss)
          have HTS := hide (fun t (h : tgOf (pmS ms) (P.ss.getD q zS) = some t) => tgN_succ (ps := pmS ms) (P := P) q h)
          have HBAD := hide (fun (h : tgOf (pmS ms) (P.ss.getD q zS) = none) => (show ¬ imps (pmS ms) from fun hi => by have := hi m (by omega) q (by rw [← HP.out]; exact hlt2); rw [← HP.out, h] at this; cases this))
          have HGO := hide (fun t (h : tgOf (pmS ms) (P.ss.getD q zS) = some t) => (show ∀ j, j < q + 1 → (tgOf (pmS ms) (P.ss.getD j zS)).isSome = true from fun j hj => by
            by_cases e : j = q
            · subst e; rw [h]; rfl
            · exact hk j (by omega)))
          have hX : (f' m).1 = tgN (pmS ms) P q := by rw [hf m hlt, if_neg (by omega), if_pos rfl]
          have hsv : svT (f' m) = .slice (f' m).2.1 q (f' m).2.2 := by unfold svT; rw [hX, tgN_len]
          have HQ := hide (And.intro F (And.intro hf (And.intro T B)))
          have hgw := HB.out.1.size
          have hTs := T.size
          generalize P.ss.getD q zS = str at *
          clear F hk T B hc hsz hcs
          go_wp2_with fail
          refine HR.out.mono ?_
          rintro e w1 ⟨rfl, hb1⟩
          obtain ⟨F, hf, T, B⟩ := HQ.out
          have B1 := B.trans (hb1.mono B.size)
          cases ho : tgOf (pmS ms) str with
          | none =>
            have HF := hide (And.intro (B1.trans (((Below.refl _ w1).alloc (Nat.le_refl _) (.cells #[.int .i64 0, .int .i64 0, .int .i64 0] 71)).mono B1.size)) (HBAD.out ho))
            clear F hf T B hb1 B1 HQ HR HTS HBAD HGO c0 hX hsv
            unfold tgV
            go_wp2
            go_ret2
            exact ⟨HF.out.1, .inl ⟨HF.out.2, _, rfl⟩⟩
          | some t =>
            obtain ⟨t1, t2, t3⟩ := t
            have al1 : Below w1.heap.size w1 (w1.alloc (.cells #[.int .i64 t1, .int .i64 t2, .int .i64 t3] 71)) := (Below.refl _ _).alloc (Nat.le_refl _) _
            have hs1 : (w1.alloc (.cells #[.int .i64 t1, .int .i64 t2, .int .i64 t3] 71)).heap.size = w1.heap.size + 1 := by simp
            have k1 := Blk.new w1 #[.int .i64 t1, .int .i64 t2, .int .i64 t3] 71
            have F1 := (F.below hb1).below al1
            have T1 := (T.trans (turn_below hb1)).trans (turn_below al1)
            have HT2 := hide (HTS.out _ ho)
            have HG2 := hide (HGO.out _ ho)
            obtain ⟨x0, x1, x2, _⟩ := k1.three
            generalize hW1 : w1.alloc (.cells #[.int .i64 t1, .int .i64 t2, .int .i64 t3] 71) = W1 at *
            have al2 : Below W1.heap.size W1 (W1.alloc (.cells #[.int .i64 t1, .int .i64 t2, .int .i64 t3] 71)) := (Below.refl _ _).alloc (Nat.le_refl _) _
            have F2a := F1.below al2
            have F2 : Tf (W1.alloc (.cells #[.int .i64 t1, .int .i64 t2, .int .i64 t3] 71)).drew w.heap.size w.heap.size n f' := ⟨F2a.head, F2a.rows, F2a.apart⟩
            have HCN := hide (show ∀ j u, (clG (t1, t2, t3))[j]? = some u → (W1.alloc (.cells #[.int .i64 t1, .int .i64 t2, .int .i64 t3] 71)).drew.cell? ((⟨w1.heap.size + 1, 0, none⟩ : Addr).add j) = some u by have := cells_new W1 _ 71 (clG (t1, t2, t3)) rfl; rw [hs1] at this; exact this)
            obtain ⟨p3, f3⟩ := F2a.cell m hlt
            rw [hsv] at p3
            obtain ⟨p1, f1⟩ := F1.cell m hlt
            obtain ⟨p2, f2⟩ := F2.cell m hlt
            have hsz1 := hb1.size
            rw [hsv] at p1 p2
            obtain ⟨A, hA⟩ : ∃ A, A = (f' m).2.1 := ⟨_, rfl⟩
            obtain ⟨C, hC⟩ : ∃ C, C = (f' m).2.2 := ⟨_, rfl⟩
            rw [← hA, ← hC] at p1 p2 p3 hsv
            have HOW := hide (show (W1.alloc (.cells #[.int .i64 t1, .int .i64 t2, .int .i64 t3] 71)).drew.ownsRow w.heap.size 71 3 (.slice A q C) q ((tgN (pmS ms) P q).flatMap clG) by have := F2.rows m hlt; unfold OG at this; rw [hsv, hX, tgN_len] at this; exact this)
            have HHD := hide (fun (w4 : World) (hgr : (W1.alloc (.cells #[.int .i64 t1, .int .i64 t2, .int .i64 t3] 71)).drew.grownBy w4 (Value.slice A q C).ownBlock) => (show w4.cell? ⟨w.heap.size, m, none⟩ = some (.slice A q C) ∧ w4.frozen? ⟨w.heap.size, m, none⟩ = false from by
              obtain ⟨cs, hc1, hc2, hc3⟩ := F2.head
              have hb4 := blk_grown hc1 hgr (fun e => by have := F2.rows m hlt; rw [hsv] at this; exact kind_no this e.symm hc1 (by decide))
              exact ⟨(hb4.cell m).trans ((hc3 m hlt).trans (by rw [hsv])), hb4.frozen m⟩))
            have HX := hide (And.intro F2 (And.intro hf (And.intro (turn_d1 (T1.trans (turn_below al2))) (And.intro hsv hX))))
            have HW1 := hide hW1
            have hgl := F1.lt.1
            clear F hf T B hb1 B1 HQ HR HTS HBAD HGO c0 al1 k1 F1 T1 al2 F2 F2a hX hsv hA hC hW1
            unfold tgV
            go_wp2_with fail
            rw [HW1.out]
            go_region_law (first
              | (refine step_append_lies _ rfl _ _ 189 rfl w.heap.size 71 iG (.agg #[.int .i64 0, .int .i64 0, .int .i64 0]) 3 24 Tryz.underlying189 hiG hzG0 hzG1 hzG2 rfl (by decide) (.slice A q C) q ((tgN (pmS ms) P q).flatMap clG) rfl HOW.out ⟨w1.heap.size + 1, 0, none⟩ 1 1 (clG (t1, t2, t3)) rfl rfl HCN.out (by intro u hu; simp [clG] at hu; rcases hu with rfl | rfl | rfl <;> rfl) (by decide) (by unfold maxLen; omega) (by omega) (by simp; omega) _ rfl ?_; intro g4 c4 w4 hown hgr hat hlt4; obtain ⟨p4, f4⟩ := HHD.out w4 hgr))
            all_goals
              obtain ⟨F2, hf, T2, hsv, hX⟩ := HX.out
              have hgr' := hgr
              rw [← hsv] at hgr' hat
              have O4 : OG 71 3 clG w4 w.heap.size (svT ((tgN (pmS ms) P (q + 1), some ⟨g4, 0, none⟩, c4) : TB)) (tgN (pmS ms) P (q + 1)) := by
                unfold OG svT
                rw [tgN_len, HT2.out, List.flatMap_append, List.flatMap_singleton]
                exact hown
              have U := F2.update (x := (tgN (pmS ms) P (q + 1), some ⟨g4, 0, none⟩, c4)) (g4 := g4) (c4 := c4) hlt hgr' O4 rfl (by simpa using hat)
              have T5 : Turn (fun j => w.heap.size ≤ j) wo (w4.setCell ⟨w.heap.size, m, none⟩ (svT ((tgN (pmS ms) P (q + 1), some ⟨g4, 0, none⟩, c4) : TB))) := by
                have t4 : Turn (fun j => w.heap.size ≤ j) _ w4 := ⟨hgr.os, hgr.tape, hgr.output, hgr.size, fun j hj hs => hgr.block j hj (fun e => hs (by have := (F2.lt.2 m hlt j (by rw [hsv]; exact e.symm)).1; exact this))⟩
                exact (T2.trans t4).trans ((turn_set w4 w.heap.size m _).mono (fun j hj => by have e : j = w.heap.size := hj; omega))
              have hsx : svT ((tgN (pmS ms) P (q + 1), some ⟨g4, 0, none⟩, c4) : TB) = .slice (some ⟨g4, 0, none⟩) (q + 1) c4 := by unfold svT; rw [tgN_len]
              rw [hsx] at U T5
              have HF := hide (And.intro U (And.intro (show ∀ i, i < n → ((fun i => if i = m then ((tgN (pmS ms) P (q + 1), some ⟨g4, 0, none⟩, c4) : TB) else f' i) i).1 = if i < m then tgs (pmS ms) ((pmS ms).getD i zP) else if i = m then tgN (pmS ms) P (q + 1) else [] from fun i hi => by
                by_cases e : i = m
                · simp [e]
                · simp only [e, if_false]; rw [hf i hi]; simp [e]) (And.intro HG2.out T5)))
              clear F2 hf T2 hsv hX hgr' hgr hown hat O4 U T5 hsx HX HOW HHD p4 f4 p1 p2 p3 f1 f2 f3 HCN x0 x1 x2
              go_wp2
              go_roundw
              case rel => exact ⟨q + 1, _, by omega, by go_num, HF.out.1, HF.out.2.1, HF.out.2.2.1, HF.out.2.2.2⟩
              case measure => simp [intOf]; omega
        · have hlt2' : ¬ (q : Int) < (P.ss.length : Int) := by omega
          have hqe : q = P.ss.length := by omega
          have HF := hide (And.intro B (And.intro F (And.intro (show ∀ i, i < n → (f' i).1 = if i < m + 1 then tgs (pmS ms) ((pmS ms).getD i zP) else [] from fun i hi => by
            rw [hf i hi]
            by_cases e : i < m
            · rw [if_pos e, if_pos (by omega)]
            · by_cases e2 : i = m
              · rw [if_neg e, if_pos e2, if_pos (by omega), e2, ← HP.out, hqe]; rfl
              · rw [if_neg e, if_neg e2, if_neg (by omega)]) (show ∀ j, j < m + 1 → tgOk (pmS ms) ((pmS ms).getD j zP) from fun j hj => by
            by_cases e : j = m
            · subst e; rw [← HP.out]; intro i hi; exact hk i (by omega)
            · exact HB.out.2.2.2 j (by omega)))))
          clear F hf hk T B hqe
          go_wp2
          go_roundw
          case rel => exact ⟨m + 1, f', by omega, by go_num, HF.out.2.1, HF.out.2.2.1, HF.out.2.2.2, HF.out.1⟩
          case measure => simp [intOf]; omega
    · have hlt' : ¬ (m : Int) < (n : Int) := by omega
      have HI := hide (show imps (pmS ms) from fun i hi => hk i (by omega))
      have HF := hide (And.intro B (And.intro F (show ∀ i, i < n → (f i).1 = tgs (pmS ms) ((pmS ms).getD i zP) from fun i hi => by rw [hf i hi, if_pos (by omega)])))
      clear B F hf hk
      go_wp2
      go_ret2
      exact ⟨HF.out.1, .inr (by first | exact ⟨HI.out, f, rfl, HF.out.2.1, HF.out.2.2⟩ | exact ⟨HI.out, rfl, f, HF.out.2.1, HF.out.2.2⟩)⟩
end Go.Proofs.YtngdgogjlpjjpaeGreat

namespace Go.Proofs.YtngdgogjlpjjpaeGreat
open Go.RowKit
set_option linter.unusedVariables false
set_option linter.unusedSimpArgs false
set_option maxRecDepth 100000

theorem rnd_rnd (x : Int) : rnd (rnd x) = rnd x := by unfold rnd; omega
theorem rnd_whole {x : Int} (h : x % 32 = 0) : rnd x = x := by unfold rnd; omega
def alF (x : Int) : Array Value := #[.int .i64 x, .func (.func 187) #[] #[]]
def alR (x : Int) : Array Value := #[.int .i64 x, .func (.func 229) #[] #[]]
/-- THE BOXES OF layOut: the configuration, the answer, the allocators, the layout -/
structure Lo (w W : World) (s c k d fx rx : Int) (cs : Array Value) : Prop where
  be : Below w.heap.size w W
  k0 : Blk W w.heap.size #[.int .i64 s, .int .i64 c, .int .i64 k, .int .i64 d] 44
  k1 : Blk W (w.heap.size + 1) zL 36
  k2 : Blk W (w.heap.size + 2) (alF fx) 266
  k3 : Blk W (w.heap.size + 3) (alR rx) 268
  k4 : Blk W (w.heap.size + 4) cs 36
theorem Lo.sz {w W : World} {s c k d fx rx : Int} {cs : Array Value} (h : Lo w W s c k d fx rx cs) : w.heap.size + 5 ≤ W.heap.size := h.k4.lt
theorem Lo.below {w W W' : World} {s c k d fx rx : Int} {cs : Array Value} (h : Lo w W s c k d fx rx cs) (hb : Below W.heap.size W W') : Lo w W' s c k d fx rx cs := ⟨h.be.trans (hb.mono h.be.size), h.k0.below hb, h.k1.below hb, h.k2.below hb, h.k3.below hb, h.k4.below hb⟩
theorem Lo.drew {w W : World} {s c k d fx rx : Int} {cs : Array Value} (h : Lo w W s c k d fx rx cs) : Lo w W.drew s c k d fx rx cs := ⟨h.be.drew, h.k0, h.k1, h.k2, h.k3, h.k4⟩
theorem Lo.set {w W : World} {s c k d fx rx : Int} {cs : Array Value} (h : Lo w W s c k d fx rx cs) (i : Nat) (v : Value) : Lo w (W.setCell ⟨w.heap.size + 4, i, none⟩ v) s c k d fx rx (cs.setIfInBounds i v) := by
  have t := turn_set W (w.heap.size + 4) i v
  exact ⟨below_turn h.be t (fun k hk => by omega) h.be.size, turn_blk t h.k0 (by omega), turn_blk t h.k1 (by omega), turn_blk t h.k2 (by omega), turn_blk t h.k3 (by omega), h.k4.set i v⟩
theorem Lo.other {w W : World} {s c k d fx rx : Int} {cs : Array Value} (h : Lo w W s c k d fx rx cs) {g : Nat} (hg : w.heap.size + 5 ≤ g) (i : Nat) (v : Value) : Lo w (W.setCell ⟨g, i, none⟩ v) s c k d fx rx cs := by
  have t := turn_set W g i v
  exact ⟨below_turn h.be t (fun k hk => by omega) h.be.size, turn_blk t h.k0 (by omega), turn_blk t h.k1 (by omega), turn_blk t h.k2 (by omega), turn_blk t h.k3 (by omega), turn_blk t h.k4 (by omega)⟩
theorem Lo.callF {w W W' : World} {s c k d fx rx fx' : Int} {cs : Array Value} (h : Lo w W s c k d fx rx cs) (t : Turn (fun j => j = w.heap.size + 2) W W') (k2 : Blk W' (w.heap.size + 2) (alF fx') 266) : Lo w W' s c k d fx' rx cs :=
  ⟨below_turn h.be t (fun k hk => by omega) h.be.size, turn_blk t h.k0 (by omega), turn_blk t h.k1 (by omega), k2, turn_blk t h.k3 (by omega), turn_blk t h.k4 (by omega)⟩
theorem Lo.callR {w W W' : World} {s c k d fx rx rx' : Int} {cs : Array Value} (h : Lo w W s c k d fx rx cs) (t : Turn (fun j => j = w.heap.size + 3) W W') (k3 : Blk W' (w.heap.size + 3) (alR rx') 268) : Lo w W' s c k d fx rx' cs :=
  ⟨below_turn h.be t (fun k hk => by omega) h.be.size, turn_blk t h.k0 (by omega), turn_blk t h.k1 (by omega), turn_blk t h.k2 (by omega), k3, turn_blk t h.k4 (by omega)⟩
theorem Lo.grown {w W W' : World} {s c k d fx rx : Int} {cs : Array Value} {row : Option Nat} (h : Lo w W s c k d fx rx cs) (hg : W.grownBy W' row) (hr : ∀ j, row = some j → w.heap.size + 5 ≤ j) : Lo w W' s c k d fx rx cs := by
  have t : Turn (fun j => row = some j) W W' := ⟨hg.os, hg.tape, hg.output, hg.size, fun j hj hs => hg.block j hj (fun e => hs e.symm)⟩
  exact ⟨below_turn h.be t (fun j hj => by have := hr j hj; omega) h.be.size, turn_blk t h.k0 (fun e => by have := hr _ e; omega), turn_blk t h.k1 (fun e => by have := hr _ e; omega), turn_blk t h.k2 (fun e => by have := hr _ e; omega), turn_blk t h.k3 (fun e => by have := hr _ e; omega), turn_blk t h.k4 (fun e => by have := hr _ e; omega)⟩
theorem lo_new (w : World) (s c k d : Int) : Lo w (((((w.alloc (.cells #[.int .i64 s, .int .i64 c, .int .i64 k, .int .i64 d] 44)).alloc (.cells #[.slice none 0 0, .int .i64 0, .slice none 0 0, .int .i64 0, .int .i64 0, .slice none 0 0] 36)).alloc (.cells #[.int .i64 0, .func (.func 187) #[] #[]] 266)).alloc (.cells #[.int .i64 65536, .func (.func 229) #[] #[]] 268)).alloc (.cells #[.slice none 0 0, .int .i64 0, .slice none 0 0, .int .i64 0, .int .i64 0, .slice none 0 0] 36)) s c k d 0 65536 zL := by
  have k0 := Blk.new w #[.int .i64 s, .int .i64 c, .int .i64 k, .int .i64 d] 44
  have b0 : Below w.heap.size w (w.alloc (.cells #[.int .i64 s, .int .i64 c, .int .i64 k, .int .i64 d] 44)) := (Below.refl _ _).alloc (Nat.le_refl _) _
  have s0 : (w.alloc (.cells #[.int .i64 s, .int .i64 c, .int .i64 k, .int .i64 d] 44)).heap.size = w.heap.size + 1 := by simp
  generalize w.alloc (.cells #[.int .i64 s, .int .i64 c, .int .i64 k, .int .i64 d] 44) = W0 at *
  have k1 := Blk.new W0 #[.slice none 0 0, .int .i64 0, .slice none 0 0, .int .i64 0, .int .i64 0, .slice none 0 0] 36
  have b1 : Below W0.heap.size W0 (W0.alloc (.cells #[.slice none 0 0, .int .i64 0, .slice none 0 0, .int .i64 0, .int .i64 0, .slice none 0 0] 36)) := (Below.refl _ _).alloc (Nat.le_refl _) _
  have s1 : (W0.alloc (.cells #[.slice none 0 0, .int .i64 0, .slice none 0 0, .int .i64 0, .int .i64 0, .slice none 0 0] 36)).heap.size = w.heap.size + 2 := by simp [s0]
  rw [s0] at k1
  generalize W0.alloc (.cells #[.slice none 0 0, .int .i64 0, .slice none 0 0, .int .i64 0, .int .i64 0, .slice none 0 0] 36) = W1 at *
  have k2 := Blk.new W1 #[.int .i64 0, .func (.func 187) #[] #[]] 266
  have b2 : Below W1.heap.size W1 (W1.alloc (.cells #[.int .i64 0, .func (.func 187) #[] #[]] 266)) := (Below.refl _ _).alloc (Nat.le_refl _) _
  have s2 : (W1.alloc (.cells #[.int .i64 0, .func (.func 187) #[] #[]] 266)).heap.size = w.heap.size + 3 := by simp [s1]
  rw [s1] at k2
  generalize W1.alloc (.cells #[.int .i64 0, .func (.func 187) #[] #[]] 266) = W2 at *
  have k3 := Blk.new W2 #[.int .i64 65536, .func (.func 229) #[] #[]] 268
  have b3 : Below W2.heap.size W2 (W2.alloc (.cells #[.int .i64 65536, .func (.func 229) #[] #[]] 268)) := (Below.refl _ _).alloc (Nat.le_refl _) _
  have s3 : (W2.alloc (.cells #[.int .i64 65536, .func (.func 229) #[] #[]] 268)).heap.size = w.heap.size + 4 := by simp [s2]
  rw [s2] at k3
  generalize W2.alloc (.cells #[.int .i64 65536, .func (.func 229) #[] #[]] 268) = W3 at *
  have k4 := Blk.new W3 #[.slice none 0 0, .int .i64 0, .slice none 0 0, .int .i64 0, .int .i64 0, .slice none 0 0] 36
  have b4 : Below W3.heap.size W3 (W3.alloc (.cells #[.slice none 0 0, .int .i64 0, .slice none 0 0, .int .i64 0, .int .i64 0, .slice none 0 0] 36)) := (Below.refl _ _).alloc (Nat.le_refl _) _
  rw [s3] at k4
  have c34 := b4
  have c24 := b3.trans (c34.mono (by omega))
  have c14 := b2.trans (c24.mono (by omega))
  have c04 := b1.trans (c14.mono (by omega))
  exact ⟨b0.trans (c04.mono (by omega)), k0.below c04, k1.below c14, k2.below c24, k3.below c34, k4⟩
end Go.Proofs.YtngdgogjlpjjpaeGreat
