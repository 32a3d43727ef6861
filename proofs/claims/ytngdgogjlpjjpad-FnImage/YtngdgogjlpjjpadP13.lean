import Derived.Maps.OwnSet
import Derived.Test.YtngdgogjlpjjpadP00
import Derived.Test.YtngdgogjlpjjpadP01
import Derived.Test.YtngdgogjlpjjpadP11
import Derived.Test.YtngdgogjlpjjpadP12
namespace Go.Proofs.Ytngdgogjlpjjpad
open Go.RowKit
set_option linter.unusedVariables false
set_option linter.unusedSimpArgs false
set_option maxRecDepth 100000
structure MD (w : World) (nm : ByteArray) (ta : Option Addr) (tn tc : Nat) (tz : List Int) (ba : Option Addr) (bn bc : Nat) (bl : List Bk) (da : Option Addr) (dn dc : Nat) (dz : List Int) (bss : Int) (ra : Option Addr) (rn rc : Nat) (rz : List Int) (ia : Option Addr) (im ic : Nat) (ss : List ByteArray) (ea : Option Addr) (en ec : Nat) (es : List Ex) : Prop where
  n : nm.size ≤ 1048576
  t : IS w ta tn tc tz
  b : BKS w ba bn bc bl
  d : BS w da dn dc dz
  s : wfi bss
  r : IS w ra rn rc rz
  i : SS w ia im ic ss
  e : ES w ea en ec es
theorem MD.below {w w' : World} {nm : ByteArray} {ta : Option Addr} {tn tc : Nat} {tz : List Int} {ba : Option Addr} {bn bc : Nat} {bl : List Bk} {da : Option Addr} {dn dc : Nat} {dz : List Int} {bss : Int} {ra : Option Addr} {rn rc : Nat} {rz : List Int} {ia : Option Addr} {im ic : Nat} {ss : List ByteArray} {ea : Option Addr} {en ec : Nat} {es : List Ex}
    (h : MD w nm ta tn tc tz ba bn bc bl da dn dc dz bss ra rn rc rz ia im ic ss ea en ec es) (hb : Below w.heap.size w w') : MD w' nm ta tn tc tz ba bn bc bl da dn dc dz bss ra rn rc rz ia im ic ss ea en ec es :=
  ⟨h.n, h.t.below hb, h.b.below hb, h.d.below hb, h.s, h.r.below hb, h.i.below hb, h.e.below hb⟩
def mdo (nm : ByteArray) (tn : Nat) (tz : List Int) (bn : Nat) (bl : List Bk) (dn : Nat) (bss : Int) (rn : Nat) (rz : List Int) (im : Nat) (ss : List ByteArray) (en : Nat) (es : List Ex) : Int :=
  if nmo nm = false then 1 else if cdo tn tz bn bl = false then 2 else if 512 < dn ∨ bss < 0 ∨ 512 < bss then 3 else if rlo rn rz dn = false then 4 else if imo im ss = false then 5 else if exo tn bn bl en es = false then 6 else 0
set_option maxHeartbeats 4000000 in
theorem sModuleOk_any (nm : ByteArray) (ta : Option Addr) (tn tc : Nat) (tz : List Int) (ba : Option Addr) (bn bc : Nat) (bl : List Bk) (da : Option Addr) (dn dc : Nat) (dz : List Int) (bss : Int) (ra : Option Addr) (rn rc : Nat) (rz : List Int) (ia : Option Addr) (im ic : Nat) (ss : List ByteArray) (ea : Option Addr) (en ec : Nat) (es : List Ex) (w : World)
    (h : MD w nm ta tn tc tz ba bn bc bl da dn dc dz bss ra rn rc rz ia im ic ss ea en ec es) :
    Calls Try.prog 26 #[.agg #[.string nm, .slice ta tn tc, .slice ba bn bc, .slice da dn dc, .int .i64 bss, .slice ra rn rc, .slice ia im ic, .slice ea en ec]] w fun e w' => e = .returned (.int .i64 (mdo nm tn tz bn bl dn bss rn rz im ss en es)) ∧ Below w.heap.size w w' := by
  obtain ⟨W, hW⟩ : ∃ W, W = w.alloc (.cells #[.string nm, .slice ta tn tc, .slice ba bn bc, .slice da dn dc, .int .i64 bss, .slice ra rn rc, .slice ia im ic, .slice ea en ec] 29) := ⟨_, rfl⟩
  have hB0 : Below w.heap.size w W := by rw [hW]; exact (Below.refl _ _).alloc (Nat.le_refl _) _
  have kb : Blk W w.heap.size #[.string nm, .slice ta tn tc, .slice ba bn bc, .slice da dn dc, .int .i64 bss, .slice ra rn rc, .slice ia im ic, .slice ea en ec] 29 := by rw [hW]; exact Blk.new _ _ _
  obtain ⟨r, hr⟩ : ∃ r, r = mdo nm tn tz bn bl dn bss rn rz im ss en es := ⟨_, rfl⟩
  rw [← hr]
  unfold mdo at hr
  have HRR := hide hr
  clear hr
  have H0 := h.below hB0
  have hmd := h.d.2.1
  have hmi := h.i.2.1
  have htn := h.t.2.1
  have HN := hide (fun w => l4NameOk_any nm w h.n)
  have HCd := hide (fun w ht hb => l4CodeOk_any nm ta tn tc tz ba bn bc bl (.slice da dn dc) (.slice ra rn rc) (.slice ia im ic) (.slice ea en ec) bss w ht hb)
  have HRl := hide (fun w h => l4RelocsOk_any nm (.slice ta tn tc) (.slice ba bn bc) da dn dc bss ra rn rc rz (.slice ia im ic) (.slice ea en ec) w hmd h)
  have HEx := hide (fun w hb h => l4ExportsOk_any nm ta tn tc ba bn bc bl (.slice da dn dc) (.slice ra rn rc) (.slice ia im ic) bss ea en ec es w htn hb h)
  unfold maxLen at hmd hmi
  have hsz := h.i.size
  have HFU := hide (fun k w => l4FullOk_any (ss.getD k zS) w (hsz k))
  obtain ⟨s0, s1⟩ := h.s
  clear h hsz htn
  have HW := hide hW
  clear hW
  generalize nmo nm = a1 at *
  generalize cdo tn tz bn bl = a2 at *
  generalize rlo rn rz dn = a4 at *
  generalize exo tn bn bl en es = a6 at *
  obtain ⟨q0, q1, q2, q3, q4, q5, q6, q7⟩ := kb.eight
  go_enter Try.func26, Try.ntmps26
  go_wp2_with (first | (rw [← HW.out]) | (go_at_call 63; refine (HN.out _).mono ?_; rintro e w1 ⟨rfl, rfl⟩; cases a1))
  · have e := hide (show r = 1 from by rw [HRR.out]; simp)
    go_ret
    exact ⟨ret_int e.out.symm, hB0⟩
  · refine (HCd.out _ H0.t H0.b).mono ?_
    rintro e w2 ⟨rfl, hb2⟩
    have kb2 := kb.below hb2
    have H2 := H0.below hb2
    have hB2 := hB0.trans (hb2.mono hB0.size)
    clear hb2 kb H0 hB0 q0 q1 q2 q3 q4 q5 q6 q7
    obtain ⟨q0, q1, q2, q3, q4, q5, q6, q7⟩ := kb2.eight
    cases a2
    · have e := hide (show r = 2 from by rw [HRR.out]; simp)
      go_wp2
      go_ret
      exact ⟨ret_int e.out.symm, hB2⟩
    · by_cases c1 : 512 < dn
      · have e := hide (show r = 3 from by rw [HRR.out]; simp [c1])
        have c1' : (512 : Int) < (dn : Int) := by omega
        go_wp2
        go_ret
        exact ⟨ret_int e.out.symm, hB2⟩
      · have c1' : ¬ (512 : Int) < (dn : Int) := by omega
        by_cases c2 : bss < 0
        · have e := hide (show r = 3 from by rw [HRR.out]; simp [c2])
          go_wp2
          go_ret
          exact ⟨ret_int e.out.symm, hB2⟩
        · by_cases c3 : 512 < bss
          · have e := hide (show r = 3 from by rw [HRR.out]; simp [c3])
            go_wp2
            go_ret
            exact ⟨ret_int e.out.symm, hB2⟩
          · have HR2 := hide (show r = if a4 = false then 4 else if imo im ss = false then 5 else if a6 = false then 6 else 0 from by
              rw [HRR.out]
              simp only [Bool.true_eq_false, if_false, show ¬ (512 < dn ∨ bss < 0 ∨ 512 < bss) by omega])
            clear HRR
            go_wp2_with fail
            refine (HRl.out _ H2.r).mono ?_
            rintro e w3 ⟨rfl, hb3⟩
            have kb3 := kb2.below hb3
            have H3 := H2.below hb3
            have hB3 := hB2.trans (hb3.mono hB2.size)
            clear hb3 kb2 H2 hB2 q0 q1 q2 q3 q4 q5 q6 q7
            obtain ⟨q0, q1, q2, q3, q4, q5, q6, q7⟩ := kb3.eight
            cases a4
            · have e := hide (show r = 4 from by rw [HR2.out]; simp)
              go_wp2
              go_ret
              exact ⟨ret_int e.out.symm, hB3⟩
            · by_cases d1 : 16 < im
              · have e := hide (show r = 5 from by rw [HR2.out, show imo im ss = false by unfold imo; rw [decide_eq_false (by omega)]; rfl]; simp)
                have d1' : (16 : Int) < (im : Int) := by omega
                go_wp2
                go_ret
                exact ⟨ret_int e.out.symm, hB3⟩
              · have d1' : ¬ (16 : Int) < (im : Int) := by omega
                have HIM := hide (show imo im ss = (List.range im).all (fun k => full (ss.getD k zS)) from by unfold imo; rw [decide_eq_true (by omega)]; rfl)
                go_wp2_with fail
                go_loop [3] (fun i => ∃ k : Nat, k ≤ im ∧ i = .int .i64 k ∧ Hid (∀ j, j < k → full (ss.getD j zS) = true)) (fun i => im - (intOf i).toNat)
                case atStart => exact ⟨0, Nat.zero_le _, rfl, hide (fun j hj => by omega)⟩
                case round =>
                  obtain ⟨k, hk, rfl, HJ⟩ := hrel
                  by_cases hlt : k < im
                  · have hlt' : (k : Int) < (im : Int) := by omega
                    obtain ⟨bb, off, rfl⟩ := H3.i.addr (by omega)
                    have hck := H3.i.at k hlt
                    have HZ := hide (rng_bad (fun k => full (ss.getD k zS)) im k hlt)
                    have HG := hide (show full (ss.getD k zS) = true → ∀ j, j < k + 1 → full (ss.getD j zS) = true from fun h j hj => by
                      by_cases e : j = k
                      · subst e; exact h
                      · exact HJ.out j (by omega))
                    have HF := hide (HFU.out k)
                    generalize ss.getD k zS = s at *
                    cases hf : full s
                    · rw [hf] at HF
                      have e := hide (show r = 5 from by rw [HR2.out, HIM.out, HZ.out hf]; simp)
                      go_wp2_with (go_at_call 66; refine (HF.out _).mono ?_; rintro e w4 ⟨rfl, rfl⟩)
                      go_ret
                      exact ⟨ret_int e.out.symm, hB3⟩
                    · rw [hf] at HF
                      go_wp2_with (go_at_call 66; refine (HF.out _).mono ?_; rintro e w4 ⟨rfl, rfl⟩)
                      go_round
                      case rel => exact ⟨k + 1, by omega, by go_num, hide (HG.out hf)⟩
                      case measure => simp [intOf]; omega
                  · have HI := hide (show imo im ss = true from by rw [HIM.out]; exact rng_good (fun k => full (ss.getD k zS)) im (fun j hj => HJ.out j (by omega)))
                    go_wp2_with fail
                    refine (HEx.out _ H3.b H3.e).mono ?_
                    rintro e w5 ⟨rfl, hb5⟩
                    have hB5 := hB3.trans (hb5.mono hB3.size)
                    cases a6
                    · have e := hide (show r = 6 from by rw [HR2.out, HI.out]; simp)
                      go_wp2
                      go_ret
                      exact ⟨ret_int e.out.symm, hB5⟩
                    · have e := hide (show r = 0 from by rw [HR2.out, HI.out]; simp)
                      go_wp2
                      go_ret
                      exact ⟨ret_int e.out.symm, hB5⟩
def upS (f : Nat → Nat) : Nat → Nat
  | 0 => 0
  | k + 1 => upS f k + f k
theorem upS_mono (f : Nat → Nat) (k : Nat) : ∀ m, k ≤ m → upS f k ≤ upS f m
  | 0, h => by obtain rfl : k = 0 := by omega
               exact Nat.le_refl _
  | m + 1, h => by
    by_cases e : k = m + 1
    · subst e; exact Nat.le_refl _
    · have := upS_mono f k m (by omega)
      show _ ≤ upS f m + f m
      omega
def TS (w : World) (a : Option Addr) (n cap : Nat) (ss : List ByteArray) : Prop :=
  ss.length = n ∧ n ≤ maxLen ∧ (∀ i, (ss.getD i zS).size ≤ maxLen) ∧ (n ≠ 0 → ∃ b off, a = some ⟨b, off, none⟩ ∧ ∀ i, i < n → w.cell? ⟨b, off + i, none⟩ = some (.string (ss.getD i zS))) ∧ n ≤ cap
theorem TS.below {w w' : World} {a : Option Addr} {n cap : Nat} {ss : List ByteArray} (h : TS w a n cap ss) (hb : Below w.heap.size w w') : TS w' a n cap ss := by
  obtain ⟨h1, h2, h3, h4, h5⟩ := h
  refine ⟨h1, h2, h3, fun hn => ?_, h5⟩
  obtain ⟨b, off, e, hc⟩ := h4 hn
  exact ⟨b, off, e, fun i hi => (hb.cell (World.block_lt_of_cell? w _ (hc i hi))).trans (hc i hi)⟩
theorem TS.at {w : World} {a : Option Addr} {n cap : Nat} {ss : List ByteArray} (h : TS w a n cap ss) (i : Nat) (hi : i < n) : ∃ b off, a = some ⟨b, off, none⟩ ∧ w.cell? ⟨b, off + i, none⟩ = some (.string (ss.getD i zS)) := by
  obtain ⟨b, off, e, hc⟩ := h.2.2.2.1 (by omega)
  exact ⟨b, off, e, hc i hi⟩
theorem TS.ss {w : World} {a : Option Addr} {n cap : Nat} {ss : List ByteArray} (h : TS w a n cap ss) (hs : upS (fun j => (ss.getD j zS).size) n ≤ 1048576) : SS w a n cap ss := by
  refine ⟨h.1, h.2.1, fun s hm => ?_, h.2.2.2.1, h.2.2.2.2⟩
  obtain ⟨i, hi, rfl⟩ := List.getElem_of_mem hm
  have h1 := upS_mono (fun j => (ss.getD j zS).size) (i + 1) n (by have := h.1; omega)
  have h2 : upS (fun j => (ss.getD j zS).size) (i + 1) = upS (fun j => (ss.getD j zS).size) i + (ss.getD i zS).size := rfl
  have h3 : (ss.getD i zS).size = ss[i].size := by simp [List.getD_eq_getElem?_getD, hi]
  omega
def TE (w : World) (a : Option Addr) (n cap : Nat) (es : List Ex) : Prop :=
  es.length = n ∧ n ≤ maxLen ∧ (∀ i, (es.getD i zE).1.size ≤ maxLen) ∧ (n ≠ 0 → ∃ b off, a = some ⟨b, off, none⟩ ∧ ∀ i, i < n → w.cell? ⟨b, off + i * 3, none⟩ = some (.string (es.getD i zE).1) ∧ w.cell? ⟨b, off + i * 3 + 1, none⟩ = some (.int .i64 (es.getD i zE).2.1) ∧ w.cell? ⟨b, off + i * 3 + 2, none⟩ = some (.int .i64 (es.getD i zE).2.2)) ∧ n ≤ cap
theorem TE.below {w w' : World} {a : Option Addr} {n cap : Nat} {es : List Ex} (h : TE w a n cap es) (hb : Below w.heap.size w w') : TE w' a n cap es := by
  obtain ⟨h1, h2, h3, h4, h5⟩ := h
  refine ⟨h1, h2, h3, fun hn => ?_, h5⟩
  obtain ⟨b, off, e, hc⟩ := h4 hn
  have key : ∀ o v, w.cell? ⟨b, o, none⟩ = some v → w'.cell? ⟨b, o, none⟩ = some v := fun o v hv => (hb.cell (World.block_lt_of_cell? w _ hv)).trans hv
  exact ⟨b, off, e, fun i hi => ⟨key _ _ (hc i hi).1, key _ _ (hc i hi).2.1, key _ _ (hc i hi).2.2⟩⟩
theorem TE.at {w : World} {a : Option Addr} {n cap : Nat} {es : List Ex} (h : TE w a n cap es) (i : Nat) (hi : i < n) : ∃ b off, a = some ⟨b, off, none⟩ ∧ w.cell? ⟨b, off + i * 3, none⟩ = some (.string (es.getD i zE).1) ∧ w.cell? ⟨b, off + i * 3 + 1, none⟩ = some (.int .i64 (es.getD i zE).2.1) ∧ w.cell? ⟨b, off + i * 3 + 2, none⟩ = some (.int .i64 (es.getD i zE).2.2) := by
  obtain ⟨b, off, e, hc⟩ := h.2.2.2.1 (by omega)
  exact ⟨b, off, e, hc i hi⟩
theorem TE.es {w : World} {a : Option Addr} {n cap : Nat} {es : List Ex} (h : TE w a n cap es) (hs : upS (fun j => (es.getD j zE).1.size) n ≤ 1048576) : ES w a n cap es := by
  refine ⟨h.1, h.2.1, fun s hm => ?_, h.2.2.2.1, h.2.2.2.2⟩
  obtain ⟨i, hi, rfl⟩ := List.getElem_of_mem hm
  have h1 := upS_mono (fun j => (es.getD j zE).1.size) (i + 1) n (by have := h.1; omega)
  have h2 : upS (fun j => (es.getD j zE).1.size) (i + 1) = upS (fun j => (es.getD j zE).1.size) i + (es.getD i zE).1.size := rfl
  have h3 : (es.getD i zE).1.size = es[i].1.size := by simp [List.getD_eq_getElem?_getD, hi]
  omega
structure MT (w : World) (nm : ByteArray) (ta : Option Addr) (tn tc : Nat) (tz : List Int) (ba : Option Addr) (bn bc : Nat) (bl : List Bk) (da : Option Addr) (dn dc : Nat) (dz : List Int) (bss : Int) (ra : Option Addr) (rn rc : Nat) (rz : List Int) (ia : Option Addr) (im ic : Nat) (ss : List ByteArray) (ea : Option Addr) (en ec : Nat) (es : List Ex) : Prop where
  n : nm.size ≤ maxLen
  t : IS w ta tn tc tz
  b : BKS w ba bn bc bl
  d : BS w da dn dc dz
  s : wfi bss
  r : IS w ra rn rc rz
  i : TS w ia im ic ss
  e : TE w ea en ec es
theorem MT.below {w w' : World} {nm : ByteArray} {ta : Option Addr} {tn tc : Nat} {tz : List Int} {ba : Option Addr} {bn bc : Nat} {bl : List Bk} {da : Option Addr} {dn dc : Nat} {dz : List Int} {bss : Int} {ra : Option Addr} {rn rc : Nat} {rz : List Int} {ia : Option Addr} {im ic : Nat} {ss : List ByteArray} {ea : Option Addr} {en ec : Nat} {es : List Ex} (h : MT w nm ta tn tc tz ba bn bc bl da dn dc dz bss ra rn rc rz ia im ic ss ea en ec es) (hb : Below w.heap.size w w') : MT w' nm ta tn tc tz ba bn bc bl da dn dc dz bss ra rn rc rz ia im ic ss ea en ec es :=
  ⟨h.n, h.t.below hb, h.b.below hb, h.d.below hb, h.s, h.r.below hb, h.i.below hb, h.e.below hb⟩
def RowT (w : World) (g : Nat) (zs : List ByteArray) : Prop := w.heap[g]? = some (.cells (zs.map (Value.string)).toArray 9 (0, 0))
theorem RowT.cell {w : World} {g : Nat} {zs : List ByteArray} (h : RowT w g zs) (i : Nat) (hi : i < zs.length) : w.cell? ⟨g, i, none⟩ = some (.string (zs.getD i zS)) := by
  rw [cell_of_row w g i _ _ _ h]; simp [List.getD_eq_getElem?_getD, hi]
theorem RowT.frozen {w : World} {g : Nat} {zs : List ByteArray} (h : RowT w g zs) (i : Nat) : w.frozen? ⟨g, i, none⟩ = false := frozen_of_row w g i _ _ h
theorem RowT.set {w : World} {g : Nat} {zs : List ByteArray} (h : RowT w g zs) (i : Nat) (z : ByteArray) : RowT (w.setCell ⟨g, i, none⟩ (.string z)) g (zs.set i z) := by
  unfold RowT at *
  rw [heap_setCell_same w g i _ _ _ h]
  simp [List.map_set]
theorem RowT.lt {w : World} {g : Nat} {zs : List ByteArray} (h : RowT w g zs) : g < w.heap.size := by
  unfold RowT at h
  by_cases hg : g < w.heap.size
  · exact hg
  · simp [Array.getElem?_eq_none (Nat.le_of_not_lt hg)] at h
theorem RowT.below {w w' : World} {g : Nat} {zs : List ByteArray} (h : RowT w g zs) (hb : Below w.heap.size w w') : RowT w' g zs := by
  have := hb.block g h.lt
  unfold RowT at *
  rw [this]; exact h
theorem infoT : (Try.prog.info? 9).map (fun i => (i.zero, i.size, i.bytes)) = some (some (.string ⟨#[]⟩), 1, 16) := by kernel_rfl
def RowB (w : World) (g n : Nat) (gs : List Nat) (bl : List Bk) : Prop :=
  (∃ cur, Blk w g cur 24 ∧ cur.size = n ∧ ∀ i, i < gs.length → cur[i]? = some (.slice (some ⟨gs.getD i 0, 0, none⟩) (bl.getD i zB).2.1 (bl.getD i zB).2.1)) ∧ (∀ i, i < gs.length → RowI w (gs.getD i 0) (bl.getD i zB).2.2.2 ∧ g < gs.getD i 0) ∧ (∀ i j, i < j → j < gs.length → gs.getD i 0 < gs.getD j 0)
theorem RowB.below {w w' : World} {g n : Nat} {gs : List Nat} {bl : List Bk} (h : RowB w g n gs bl) (hb : Below w.heap.size w w') : RowB w' g n gs bl := by
  obtain ⟨⟨cur, h1, h2, h3⟩, h4, h5⟩ := h
  exact ⟨⟨cur, h1.below hb, h2, h3⟩, fun i hi => ⟨(h4 i hi).1.below hb, (h4 i hi).2⟩, h5⟩
theorem RowB.cell {w : World} {g n : Nat} {gs : List Nat} {bl : List Bk} (h : RowB w g n gs bl) (k : Nat) (hk : k < n) : ∃ v, w.cell? ⟨g, k, none⟩ = some v := by
  obtain ⟨⟨cur, h1, h2, h3⟩, h4, h5⟩ := h
  refine ⟨cur[k], ?_⟩
  rw [h1.cell]
  simp [h2, hk]
theorem RowB.frozen {w : World} {g n : Nat} {gs : List Nat} {bl : List Bk} (h : RowB w g n gs bl) (k : Nat) : w.frozen? ⟨g, k, none⟩ = false := by
  obtain ⟨⟨cur, h1, h2, h3⟩, h4, h5⟩ := h
  exact h1.frozen k
theorem getD_snoc_lt (gs : List Nat) (x i : Nat) (h : i < gs.length) : (gs ++ [x]).getD i 0 = gs.getD i 0 := by
  simp [List.getD_eq_getElem?_getD, List.getElem?_append_left h]
theorem getD_snoc (gs : List Nat) (x : Nat) : (gs ++ [x]).getD gs.length 0 = x := by
  simp [List.getD_eq_getElem?_getD]
theorem RowB.push {w : World} {g n x : Nat} {gs : List Nat} {bl : List Bk} (h : RowB w g n gs bl) (hk : gs.length < n) (hr : RowI w x (bl.getD gs.length zB).2.2.2) (hx : g < x) (hi : ∀ i, i < gs.length → gs.getD i 0 < x) :
    RowB (w.setCell ⟨g, gs.length, none⟩ (.slice (some ⟨x, 0, none⟩) (bl.getD gs.length zB).2.1 (bl.getD gs.length zB).2.1)) g n (gs ++ [x]) bl := by
  obtain ⟨⟨cur, h1, h2, h3⟩, h4, h5⟩ := h
  have key : ∀ y zs, RowI w y zs → g ≠ y → RowI (w.setCell ⟨g, gs.length, none⟩ (.slice (some ⟨x, 0, none⟩) (bl.getD gs.length zB).2.1 (bl.getD gs.length zB).2.1)) y zs := fun y zs hy hne => by
    unfold RowI at *
    rw [heap_setCell_other _ _ _ _ (by dsimp only; omega)]
    exact hy
  refine ⟨⟨_, h1.set gs.length _, by simp [h2], fun i hi' => ?_⟩, fun i hi' => ?_, fun i j hij hj => ?_⟩
  · simp only [List.length_append, List.length_cons, List.length_nil] at hi'
    by_cases e : i = gs.length
    · subst e
      rw [getD_snoc]
      simp [h2, hk]
    · rw [getD_snoc_lt _ _ _ (by omega), ← h3 i (by omega)]
      rw [Array.getElem?_setIfInBounds_ne (by omega)]
  · simp only [List.length_append, List.length_cons, List.length_nil] at hi'
    by_cases e : i = gs.length
    · subst e
      rw [getD_snoc]
      exact ⟨key _ _ hr (by omega), hx⟩
    · rw [getD_snoc_lt _ _ _ (by omega)]
      exact ⟨key _ _ (h4 i (by omega)).1 (by have := (h4 i (by omega)).2; omega), (h4 i (by omega)).2⟩
  · simp only [List.length_append, List.length_cons, List.length_nil] at hj
    by_cases e : j = gs.length
    · subst e
      rw [getD_snoc, getD_snoc_lt _ _ _ hij]
      exact hi i hij
    · rw [getD_snoc_lt _ _ _ (by omega), getD_snoc_lt _ _ _ (by omega)]
      exact h5 i j hij (by omega)
def reb (gs : List Nat) (bl : List Bk) : List Bk := (List.range bl.length).map fun i => (some ⟨gs.getD i 0, 0, none⟩, (bl.getD i zB).2.1, (bl.getD i zB).2.1, (bl.getD i zB).2.2.2)
theorem reb_len (gs : List Nat) (bl : List Bk) : (reb gs bl).length = bl.length := by simp [reb]
theorem reb_at (gs : List Nat) (bl : List Bk) (i : Nat) (hi : i < bl.length) : (reb gs bl).getD i zB = (some ⟨gs.getD i 0, 0, none⟩, (bl.getD i zB).2.1, (bl.getD i zB).2.1, (bl.getD i zB).2.2.2) := by
  simp [reb, List.getD_eq_getElem?_getD, hi]
theorem reb_bko (gs : List Nat) (bl : List Bk) : (reb gs bl).all bko = bl.all bko := by
  have key : ∀ i, i < bl.length → bko ((reb gs bl).getD i zB) = bko (bl.getD i zB) := fun i hi => by rw [reb_at _ _ _ hi]; rfl
  cases h : bl.all bko
  · obtain ⟨x, hx, hb⟩ := List.all_eq_false.1 h
    obtain ⟨i, hi, rfl⟩ := List.getElem_of_mem hx
    exact all_bad _ i (by rw [reb_len]; exact hi) (by rw [key i hi]; simpa [List.getD_eq_getElem?_getD, hi] using hb)
  · refine all_good _ fun j hj => ?_
    rw [reb_len] at hj
    rw [key j hj]
    have := List.all_eq_true.1 h _ (List.getElem_mem hj)
    simpa [List.getD_eq_getElem?_getD, hj] using this
theorem reb_cdo (gs : List Nat) (tn : Nat) (tz : List Int) (bn : Nat) (bl : List Bk) : cdo tn tz bn (reb gs bl) = cdo tn tz bn bl := by unfold cdo; rw [reb_bko]
theorem reb_pcn (gs : List Nat) (tn bn : Nat) (bl : List Bk) (b : Int) (h : bl.length = bn) : pcn tn bn (reb gs bl) b = pcn tn bn bl b := by
  unfold pcn
  split
  · rfl
  · split
    · rename_i h1 h2
      rw [reb_at _ _ _ (by omega)]
    · rfl
theorem reb_exo (gs : List Nat) (tn bn : Nat) (bl : List Bk) (n : Nat) (es : List Ex) (h : bl.length = bn) : exo tn bn (reb gs bl) n es = exo tn bn bl n es := by
  unfold exo ex1
  congr 2
  funext i
  rw [reb_pcn _ _ _ _ _ h]
theorem reb_mdo (gs : List Nat) (nm : ByteArray) (tn : Nat) (tz : List Int) (bn : Nat) (bl : List Bk) (dn : Nat) (bss : Int) (rn : Nat) (rz : List Int) (im : Nat) (ss : List ByteArray) (en : Nat) (es : List Ex) (h : bl.length = bn) :
    mdo nm tn tz bn (reb gs bl) dn bss rn rz im ss en es = mdo nm tn tz bn bl dn bss rn rz im ss en es := by
  unfold mdo
  rw [reb_cdo, reb_exo _ _ _ _ _ _ h]
theorem infoB : (Try.prog.info? 24).map (fun i => (i.zero, i.size, i.bytes)) = some (some (.slice none 0 0), 1, 24) := by kernel_rfl
theorem cellO {w : World} {g o o' b : Nat} {v : Value} (h : b ≠ g ∨ o' ≠ o) : (w.setCell ⟨g, o, none⟩ v).cell? ⟨b, o', none⟩ = w.cell? ⟨b, o', none⟩ :=
  World.cell?_setCell_other _ _ _ _ (by intro e; injection e; rcases h with h | h <;> simp_all)
theorem cellS {w : World} {g o : Nat} {u v : Value} (h : w.cell? ⟨g, o, none⟩ = some u) : (w.setCell ⟨g, o, none⟩ v).cell? ⟨g, o, none⟩ = some v := World.cell?_setCell_same _ _ _ h
def At3 (w : World) (g o : Nat) (x : Ex) : Prop := w.cell? ⟨g, o, none⟩ = some (.string x.1) ∧ w.cell? ⟨g, o + 1, none⟩ = some (.int .i64 x.2.1) ∧ w.cell? ⟨g, o + 2, none⟩ = some (.int .i64 x.2.2)
def set3 (w : World) (g o : Nat) (x : Ex) : World := ((w.setCell ⟨g, o, none⟩ (.string x.1)).setCell ⟨g, o + 1, none⟩ (.int .i64 x.2.1)).setCell ⟨g, o + 2, none⟩ (.int .i64 x.2.2)
theorem set3_other (w : World) (g o b o' : Nat) (r : Ex) (h : b ≠ g ∨ o' < o ∨ o + 3 ≤ o') : (set3 w g o r).cell? ⟨b, o', none⟩ = w.cell? ⟨b, o', none⟩ := by
  unfold set3
  rw [cellO (by omega), cellO (by omega), cellO (by omega)]
theorem set3_at {w : World} {g o : Nat} {q : Ex} (h : At3 w g o q) (r : Ex) : At3 (set3 w g o r) g o r := by
  obtain ⟨h1, h2, h3⟩ := h
  unfold set3
  refine ⟨?_, ?_, ?_⟩
  · rw [cellO (by omega), cellO (by omega)]; exact cellS h1
  · rw [cellO (by omega)]; exact cellS (by rw [cellO (by omega)]; exact h2)
  · exact cellS (by rw [cellO (by omega), cellO (by omega)]; exact h3)
theorem set3_far {w : World} {g o b o' : Nat} {q : Ex} (h : At3 w b o' q) (r : Ex) (hf : b ≠ g ∨ o' + 3 ≤ o ∨ o + 3 ≤ o') : At3 (set3 w g o r) b o' q := by
  unfold At3
  rw [set3_other _ _ _ _ _ _ (by omega), set3_other _ _ _ _ _ _ (by omega), set3_other _ _ _ _ _ _ (by omega)]
  exact h
theorem set3_blk {w : World} {g : Nat} {cur : Array Value} {t : TypeId} (h : Blk w g cur t) (o : Nat) (r : Ex) : ∃ cur', Blk (set3 w g o r) g cur' t ∧ cur'.size = cur.size :=
  ⟨_, (((h.set o _).set (o + 1) _).set (o + 2) _), by simp⟩
theorem At3.below {w w' : World} {g o : Nat} {x : Ex} (h : At3 w g o x) (hb : Below w.heap.size w w') : At3 w' g o x := by
  have key : ∀ o v, w.cell? ⟨g, o, none⟩ = some v → w'.cell? ⟨g, o, none⟩ = some v := fun o v hv => (hb.cell (World.block_lt_of_cell? w _ hv)).trans hv
  exact ⟨key _ _ h.1, key _ _ h.2.1, key _ _ h.2.2⟩
def RowX (w : World) (g : Nat) (es : List Ex) : Prop :=
  (∃ cur, Blk w g cur 58 ∧ cur.size = es.length * 3) ∧ ∀ i, i < es.length → At3 w g (i * 3) (es.getD i zE)
theorem RowX.lt {w : World} {g : Nat} {es : List Ex} (h : RowX w g es) : g < w.heap.size := by obtain ⟨⟨cur, hb, _⟩, _⟩ := h; exact hb.lt
theorem RowX.below {w w' : World} {g : Nat} {es : List Ex} (h : RowX w g es) (hb : Below w.heap.size w w') : RowX w' g es := by
  obtain ⟨⟨cur, hc, hs⟩, hr⟩ := h
  exact ⟨⟨cur, hc.below hb, hs⟩, fun i hi => (hr i hi).below hb⟩
theorem RowX.frozen {w : World} {g : Nat} {es : List Ex} (h : RowX w g es) (i : Nat) : w.frozen? ⟨g, i, none⟩ = false := by obtain ⟨⟨cur, hb, _⟩, _⟩ := h; exact hb.frozen i
theorem RowX.set {w : World} {g : Nat} {es : List Ex} (h : RowX w g es) (i : Nat) (hi : i < es.length) (r : Ex) : RowX (set3 w g (i * 3) r) g (es.set i r) := by
  obtain ⟨⟨cur, hc, hs⟩, hr⟩ := h
  obtain ⟨cur', hc', hs'⟩ := set3_blk hc (i * 3) r
  refine ⟨⟨cur', hc', by rw [hs', hs, List.length_set]⟩, fun j hj => ?_⟩
  rw [List.length_set] at hj
  by_cases e : i = j
  · subst e
    have : (es.set i r).getD i zE = r := by simp [List.getD_eq_getElem?_getD, hi]
    rw [this]
    exact set3_at (hr i hi) r
  · have : (es.set i r).getD j zE = es.getD j zE := by simp [List.getD_eq_getElem?_getD, e]
    rw [this]
    exact set3_far (hr j hj) r (by omega)
theorem infoX : (Try.prog.info? 58).map (fun i => (i.zero, i.size, i.bytes)) = some (some (.agg #[.string ⟨#[]⟩, .int .i64 0, .int .i64 0]), 3, 32) := by kernel_rfl
theorem turn_at (c : Nat) (w : World) (r i : Nat) (v : Value) (h : r ≤ c) : Turn (fun j => j ≤ c) w (w.setCell ⟨r, i, none⟩ v) := ⟨rfl, rfl, rfl, by rw [size_setCell]; exact Nat.le_refl _, fun j hj hn => heap_setCell_other _ _ _ _ (fun e => hn (by dsimp only at e; omega))⟩
def Stab (c : Nat) (R : World → Prop) : Prop := ∀ W W', Turn (fun j => j ≤ c) W W' → R W → R W'
theorem Stab.and {c : Nat} {R S : World → Prop} (h : Stab c R) (k : Stab c S) : Stab c (fun W => R W ∧ S W) := fun W W' t r => ⟨h W W' t r.1, k W W' t r.2⟩
structure TM (w W : World) (arg cs : Array Value) (R : World → Prop) : Prop where
  kb : Blk W w.heap.size arg 37
  kr : Blk W (w.heap.size + 1) #[.string ⟨#[]⟩, .slice none 0 0, .slice none 0 0, .slice none 0 0, .int .i64 0, .slice none 0 0, .slice none 0 0, .slice none 0 0] 29
  ko : Blk W (w.heap.size + 1 + 1) cs 29
  hB : Below w.heap.size w W
  rows : R W
  st : Stab (w.heap.size + 1 + 1) R
theorem TM.below {w W W' : World} {arg cs : Array Value} {R : World → Prop} (h : TM w W arg cs R) (hb : Below W.heap.size W W') : TM w W' arg cs R :=
  ⟨h.kb.below hb, h.kr.below hb, h.ko.below hb, h.hB.trans (hb.mono h.hB.size), h.st _ _ (turn_below hb) h.rows, h.st⟩
theorem TM.set {w W : World} {arg cs : Array Value} {R : World → Prop} (h : TM w W arg cs R) (i : Nat) (v : Value) : TM w (W.setCell ⟨w.heap.size + 1 + 1, i, none⟩ v) arg (cs.setIfInBounds i v) R :=
  ⟨h.kb.other _ _ (by dsimp only; omega), h.kr.other _ _ (by dsimp only; omega), h.ko.set i v, h.hB.setCell (by dsimp only; omega) _, h.st _ _ (turn_at _ _ _ _ _ (Nat.le_refl _)) h.rows, h.st⟩
theorem TM.add {w W : World} {arg cs : Array Value} {R S : World → Prop} (h : TM w W arg cs R) (r : S W) (s : Stab (w.heap.size + 1 + 1) S) : TM w W arg cs (fun W => R W ∧ S W) :=
  ⟨h.kb, h.kr, h.ko, h.hB, ⟨h.rows, r⟩, h.st.and s⟩
structure PMod where
  nm : ByteArray
  tz : List Int
  bl : List (List Int)
  dz : List Int
  bss : Int
  rz : List Int
  ss : List ByteArray
  es : List Ex
def bkOf (bl : List (List Int)) : List Bk := bl.map fun l => (none, l.length, l.length, l)
def mdoP (P : PMod) : Int := mdo P.nm P.tz.length P.tz P.bl.length (bkOf P.bl) P.dz.length P.bss P.rz.length P.rz P.ss.length P.ss P.es.length P.es
theorem mdo_bks {nm : ByteArray} {tn : Nat} {tz : List Int} {bl bl' : List Bk} {dn : Nat} {bss : Int} {rn : Nat} {rz : List Int} {im : Nat} {ss : List ByteArray} {en : Nat} {es : List Ex} (hl : bl.length = bl'.length) (h : ∀ i, i < bl.length → (bl.getD i zB).2.1 = (bl'.getD i zB).2.1 ∧ (bl.getD i zB).2.2.2 = (bl'.getD i zB).2.2.2) :
    mdo nm tn tz bl.length bl dn bss rn rz im ss en es = mdo nm tn tz bl.length bl' dn bss rn rz im ss en es := by
  have e : reb [] bl = reb [] bl' := by
    unfold reb
    rw [← hl]
    apply List.map_congr_left
    intro i hi
    have := h i (by simpa using hi)
    rw [this.1, this.2]
  rw [← reb_mdo [] nm tn tz bl.length bl dn bss rn rz im ss en es rfl, e, reb_mdo [] nm tn tz bl.length bl' dn bss rn rz im ss en es hl.symm]
def pN (s : Nat) (zs : List Int) : Option (Int × List Int) := if s ≤ zs.length then some (low (zs.take s), zs.drop s) else none
def pB (n : Nat) (zs : List Int) : Option (List Int × List Int) := if n ≤ zs.length then some (zs.take n, zs.drop n) else none
def strOf (bs : List Int) : ByteArray := ⟨(bs.map fun z => UInt8.ofNat z.toNat).toArray⟩
def pT (zs : List Int) : Option (ByteArray × List Int) := (pN 1 zs).bind fun x => (pB x.1.toNat x.2).map fun y => (strOf y.1, y.2)
def pM {α : Type} (p : List Int → Option (α × List Int)) : Nat → List Int → Option (List α × List Int)
  | 0, zs => some ([], zs)
  | k + 1, zs => (pM p k zs).bind fun x => (p x.2).map fun y => (x.1 ++ [y.1], y.2)
def pL (zs : List Int) : Option (List Int × List Int) := (pN 2 zs).bind fun x => pM (pN 4) x.1.toNat x.2
def pX (zs : List Int) : Option (Ex × List Int) := (pT zs).bind fun x => (pN 1 x.2).bind fun y => (pN 2 y.2).map fun z => ((x.1, y.1 - 1, z.1), z.2)
def pMod (zs : List Int) : Option (PMod × List Int) :=
  (pT zs).bind fun a => (pL a.2).bind fun b => (pN 1 b.2).bind fun nb => (pM pL nb.1.toNat nb.2).bind fun c => (pN 2 c.2).bind fun nd => (pB nd.1.toNat nd.2).bind fun d => (pN 2 d.2).bind fun e => (pN 1 e.2).bind fun nr => (pM (pN 2) nr.1.toNat nr.2).bind fun f => (pN 1 f.2).bind fun ni => (pM pT ni.1.toNat ni.2).bind fun g => (pN 1 g.2).bind fun ne => (pM pX ne.1.toNat ne.2).map fun h => (⟨a.1, b.1, c.1, d.1, e.1, f.1, g.1, h.1⟩, h.2)
theorem pN_some {s : Nat} {zs : List Int} (h : s ≤ zs.length) : pN s zs = some (low (zs.take s), zs.drop s) := if_pos h
theorem pN_none {s : Nat} {zs : List Int} (h : ¬ s ≤ zs.length) : pN s zs = none := if_neg h
theorem pB_some {s : Nat} {zs : List Int} (h : s ≤ zs.length) : pB s zs = some (zs.take s, zs.drop s) := if_pos h
theorem pB_none {s : Nat} {zs : List Int} (h : ¬ s ≤ zs.length) : pB s zs = none := if_neg h
theorem pM_none {α : Type} {p : List Int → Option (α × List Int)} {k : Nat} {zs : List Int} (h : pM p k zs = none) : ∀ j, pM p (k + j) zs = none
  | 0 => h
  | j + 1 => by
    show (pM p (k + j) zs).bind _ = none
    rw [pM_none h j]; rfl
theorem pM_succ {α : Type} {p : List Int → Option (α × List Int)} {k : Nat} {zs r : List Int} {xs : List α} (h : pM p k zs = some (xs, r)) : pM p (k + 1) zs = (p r).map fun y => (xs ++ [y.1], y.2) := by
  show (pM p k zs).bind _ = _
  rw [h]; rfl
theorem pM_len {α : Type} {p : List Int → Option (α × List Int)} : ∀ {k : Nat} {zs r : List Int} {xs : List α}, pM p k zs = some (xs, r) → xs.length = k
  | 0, zs, r, xs, h => by
    have h' : some (([] : List α), zs) = some (xs, r) := h
    simp at h'
    simp [← h'.1]
  | k + 1, zs, r, xs, h => by
    have h' : (pM p k zs).bind (fun x => (p x.2).map fun y => (x.1 ++ [y.1], y.2)) = some (xs, r) := h
    cases e : pM p k zs with
    | none => rw [e] at h'; simp at h'
    | some x =>
      obtain ⟨ys, r'⟩ := x
      have ih := pM_len e
      rw [e] at h'
      simp only [Option.bind_some, Option.map_eq_some_iff] at h'
      obtain ⟨y, _, h2⟩ := h'
      simp at h2
      rw [← h2.1]
      simp [ih]
def Tails {α : Type} (p : List Int → Option (α × List Int)) : Prop := ∀ zs x r, p zs = some (x, r) → ∃ k, k ≤ zs.length ∧ r = zs.drop k
theorem tails_pN (s : Nat) : Tails (pN s) := fun zs x r h => by
  unfold pN at h
  split at h
  · simp at h; exact ⟨s, by assumption, h.2.symm⟩
  · simp at h
end Go.Proofs.Ytngdgogjlpjjpad
