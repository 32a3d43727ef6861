import Derived.Maps.OwnSet
import Derived.Laws.IdiomStrings
import Derived.Test.YtngdgogjlpjjpacP21
namespace Go.Proofs.Ytngdgogjlpjjpac
open Go.RowKit
set_option linter.unusedVariables false
set_option linter.unusedSimpArgs false
set_option maxRecDepth 100000
structure MD (w : World) (nm : ByteArray) (ta : Option Addr) (tn tc : Nat) (tz : List Int) (ba : Option Addr) (bn bc : Nat) (bl : List Bk) (da : Option Addr) (dn dc : Nat) (dz : List Int) (bss : Int) (ra : Option Addr) (rn rc : Nat) (rz : List Int) (ia : Option Addr) (im ic : Nat) (ss : List ByteArray) (ea : Option Addr) (en ec : Nat) (es : List Ex) : Prop where
  n : nm.size ≤ 1048576
  t : IS w ta tn tc tz
  b : BKS w ba bn bc bl
  d : BS w da dn dc dz
  s : wfi bss
  r : IS w ra rn rc rz
  i : SS w ia im ic ss
  e : ES w ea en ec es
theorem MD.below {w w' : World} {nm : ByteArray} {ta : Option Addr} {tn tc : Nat} {tz : List Int} {ba : Option Addr} {bn bc : Nat} {bl : List Bk} {da : Option Addr} {dn dc : Nat} {dz : List Int} {bss : Int} {ra : Option Addr} {rn rc : Nat} {rz : List Int} {ia : Option Addr} {im ic : Nat} {ss : List ByteArray} {ea : Option Addr} {en ec : Nat} {es : List Ex}
    (h : MD w nm ta tn tc tz ba bn bc bl da dn dc dz bss ra rn rc rz ia im ic ss ea en ec es) (hb : Below w.heap.size w w') : MD w' nm ta tn tc tz ba bn bc bl da dn dc dz bss ra rn rc rz ia im ic ss ea en ec es :=
  ⟨h.n, h.t.below hb, h.b.below hb, h.d.below hb, h.s, h.r.below hb, h.i.below hb, h.e.below hb⟩
def mdo (nm : ByteArray) (tn : Nat) (tz : List Int) (bn : Nat) (bl : List Bk) (dn : Nat) (bss : Int) (rn : Nat) (rz : List Int) (im : Nat) (ss : List ByteArray) (en : Nat) (es : List Ex) : Int :=
  if nmo nm = false then 1 else if cdo tn tz bn bl = false then 2 else if 512 < dn ∨ bss < 0 ∨ 512 < bss then 3 else if rlo rn rz dn = false then 4 else if imo im ss = false then 5 else if exo tn bn bl en es = false then 6 else 0
set_option maxHeartbeats 4000000 in
theorem sModuleOk_any (nm : ByteArray) (ta : Option Addr) (tn tc : Nat) (tz : List Int) (ba : Option Addr) (bn bc : Nat) (bl : List Bk) (da : Option Addr) (dn dc : Nat) (dz : List Int) (bss : Int) (ra : Option Addr) (rn rc : Nat) (rz : List Int) (ia : Option Addr) (im ic : Nat) (ss : List ByteArray) (ea : Option Addr) (en ec : Nat) (es : List Ex) (w : World)
    (h : MD w nm ta tn tc tz ba bn bc bl da dn dc dz bss ra rn rc rz ia im ic ss ea en ec es) :
    Calls Try.prog 24 #[.agg #[.string nm, .slice ta tn tc, .slice ba bn bc, .slice da dn dc, .int .i64 bss, .slice ra rn rc, .slice ia im ic, .slice ea en ec]] w fun e w' => e = .returned (.int .i64 (mdo nm tn tz bn bl dn bss rn rz im ss en es)) ∧ Below w.heap.size w w' := by
  obtain ⟨W, hW⟩ : ∃ W, W = w.alloc (.cells #[.string nm, .slice ta tn tc, .slice ba bn bc, .slice da dn dc, .int .i64 bss, .slice ra rn rc, .slice ia im ic, .slice ea en ec] 56) := ⟨_, rfl⟩
  have hB0 : Below w.heap.size w W := by rw [hW]; exact (Below.refl _ _).alloc (Nat.le_refl _) _
  have kb : Blk W w.heap.size #[.string nm, .slice ta tn tc, .slice ba bn bc, .slice da dn dc, .int .i64 bss, .slice ra rn rc, .slice ia im ic, .slice ea en ec] 56 := by rw [hW]; exact Blk.new _ _ _
  obtain ⟨r, hr⟩ : ∃ r, r = mdo nm tn tz bn bl dn bss rn rz im ss en es := ⟨_, rfl⟩
  rw [← hr]
  unfold mdo at hr
  have HRR := hide hr
  clear hr
  have H0 := h.below hB0
  have hmd := h.d.2.1
  have hmi := h.i.2.1
  have htn := h.t.2.1
  have HN := hide (fun w => l4NameOk_any nm w h.n)
  have HCd := hide (fun w ht hb => l4CodeOk_any nm ta tn tc tz ba bn bc bl (.slice da dn dc) (.slice ra rn rc) (.slice ia im ic) (.slice ea en ec) bss w ht hb)
  have HRl := hide (fun w h => l4RelocsOk_any nm (.slice ta tn tc) (.slice ba bn bc) da dn dc bss ra rn rc rz (.slice ia im ic) (.slice ea en ec) w hmd h)
  have HEx := hide (fun w hb h => l4ExportsOk_any nm ta tn tc ba bn bc bl (.slice da dn dc) (.slice ra rn rc) (.slice ia im ic) bss ea en ec es w htn hb h)
  unfold maxLen at hmd hmi
  have hsz := h.i.size
  have HFU := hide (fun k w => l4FullOk_any (ss.getD k zS) w (hsz k))
  obtain ⟨s0, s1⟩ := h.s
  clear h hsz htn
  have HW := hide hW
  clear hW
  generalize nmo nm = a1 at *
  generalize cdo tn tz bn bl = a2 at *
  generalize rlo rn rz dn = a4 at *
  generalize exo tn bn bl en es = a6 at *
  obtain ⟨q0, q1, q2, q3, q4, q5, q6, q7⟩ := kb.eight
  go_enter Try.func24, Try.ntmps24
  go_wp2_with (first | (rw [← HW.out]) | (go_at_call 68; refine (HN.out _).mono ?_; rintro e w1 ⟨rfl, rfl⟩; cases a1))
  · have e := hide (show r = 1 from by rw [HRR.out]; simp)
    go_ret
    exact ⟨ret_int e.out.symm, hB0⟩
  · refine (HCd.out _ H0.t H0.b).mono ?_
    rintro e w2 ⟨rfl, hb2⟩
    have kb2 := kb.below hb2
    have H2 := H0.below hb2
    have hB2 := hB0.trans (hb2.mono hB0.size)
    clear hb2 kb H0 hB0 q0 q1 q2 q3 q4 q5 q6 q7
    obtain ⟨q0, q1, q2, q3, q4, q5, q6, q7⟩ := kb2.eight
    cases a2
    · have e := hide (show r = 2 from by rw [HRR.out]; simp)
      go_wp2
      go_ret
      exact ⟨ret_int e.out.symm, hB2⟩
    · by_cases c1 : 512 < dn
      · have e := hide (show r = 3 from by rw [HRR.out]; simp [c1])
        have c1' : (512 : Int) < (dn : Int) := by omega
        go_wp2
        go_ret
        exact ⟨ret_int e.out.symm, hB2⟩
      · have c1' : ¬ (512 : Int) < (dn : Int) := by omega
        by_cases c2 : bss < 0
        · have e := hide (show r = 3 from by rw [HRR.out]; simp [c2])
          go_wp2
          go_ret
          exact ⟨ret_int e.out.symm, hB2⟩
        · by_cases c3 : 512 < bss
          · have e := hide (show r = 3 from by rw [HRR.out]; simp [c3])
            go_wp2
            go_ret
            exact ⟨ret_int e.out.symm, hB2⟩
          · have HR2 := hide (show r = if a4 = false then 4 else if imo im ss = false then 5 else if a6 = false then 6 else 0 from by
              rw [HRR.out]
              simp only [Bool.true_eq_false, if_false, show ¬ (512 < dn ∨ bss < 0 ∨ 512 < bss) by omega])
            clear HRR
            go_wp2_with fail
            refine (HRl.out _ H2.r).mono ?_
            rintro e w3 ⟨rfl, hb3⟩
            have kb3 := kb2.below hb3
            have H3 := H2.below hb3
            have hB3 := hB2.trans (hb3.mono hB2.size)
            clear hb3 kb2 H2 hB2 q0 q1 q2 q3 q4 q5 q6 q7
            obtain ⟨q0, q1, q2, q3, q4, q5, q6, q7⟩ := kb3.eight
            cases a4
            · have e := hide (show r = 4 from by rw [HR2.out]; simp)
              go_wp2
              go_ret
              exact ⟨ret_int e.out.symm, hB3⟩
            · by_cases d1 : 16 < im
              · have e := hide (show r = 5 from by rw [HR2.out, show imo im ss = false by unfold imo; rw [decide_eq_false (by omega)]; rfl]; simp)
                have d1' : (16 : Int) < (im : Int) := by omega
                go_wp2
                go_ret
                exact ⟨ret_int e.out.symm, hB3⟩
              · have d1' : ¬ (16 : Int) < (im : Int) := by omega
                have HIM := hide (show imo im ss = (List.range im).all (fun k => full (ss.getD k zS)) from by unfold imo; rw [decide_eq_true (by omega)]; rfl)
                go_wp2_with fail
                go_loop [3] (fun i => ∃ k : Nat, k ≤ im ∧ i = .int .i64 k ∧ Hid (∀ j, j < k → full (ss.getD j zS) = true)) (fun i => im - (intOf i).toNat)
                case atStart => exact ⟨0, Nat.zero_le _, rfl, hide (fun j hj => by omega)⟩
                case round =>
                  obtain ⟨k, hk, rfl, HJ⟩ := hrel
                  by_cases hlt : k < im
                  · have hlt' : (k : Int) < (im : Int) := by omega
                    obtain ⟨bb, off, rfl⟩ := H3.i.addr (by omega)
                    have hck := H3.i.at k hlt
                    have HZ := hide (rng_bad (fun k => full (ss.getD k zS)) im k hlt)
                    have HG := hide (show full (ss.getD k zS) = true → ∀ j, j < k + 1 → full (ss.getD j zS) = true from fun h j hj => by
                      by_cases e : j = k
                      · subst e; exact h
                      · exact HJ.out j (by omega))
                    have HF := hide (HFU.out k)
                    generalize ss.getD k zS = s at *
                    cases hf : full s
                    · rw [hf] at HF
                      have e := hide (show r = 5 from by rw [HR2.out, HIM.out, HZ.out hf]; simp)
                      go_wp2_with (go_at_call 55; refine (HF.out _).mono ?_; rintro e w4 ⟨rfl, rfl⟩)
                      go_ret
                      exact ⟨ret_int e.out.symm, hB3⟩
                    · rw [hf] at HF
                      go_wp2_with (go_at_call 55; refine (HF.out _).mono ?_; rintro e w4 ⟨rfl, rfl⟩)
                      go_round
                      case rel => exact ⟨k + 1, by omega, by go_num, hide (HG.out hf)⟩
                      case measure => simp [intOf]; omega
                  · have HI := hide (show imo im ss = true from by rw [HIM.out]; exact rng_good (fun k => full (ss.getD k zS)) im (fun j hj => HJ.out j (by omega)))
                    go_wp2_with fail
                    refine (HEx.out _ H3.b H3.e).mono ?_
                    rintro e w5 ⟨rfl, hb5⟩
                    have hB5 := hB3.trans (hb5.mono hB3.size)
                    cases a6
                    · have e := hide (show r = 6 from by rw [HR2.out, HI.out]; simp)
                      go_wp2
                      go_ret
                      exact ⟨ret_int e.out.symm, hB5⟩
                    · have e := hide (show r = 0 from by rw [HR2.out, HI.out]; simp)
                      go_wp2
                      go_ret
                      exact ⟨ret_int e.out.symm, hB5⟩
def RowB (w : World) (g n : Nat) (gs : List Nat) (bl : List Bk) : Prop :=
  (∃ cur, Blk w g cur 46 ∧ cur.size = n ∧ ∀ i, i < gs.length → cur[i]? = some (.slice (some ⟨gs.getD i 0, 0, none⟩) (bl.getD i zB).2.1 (bl.getD i zB).2.1)) ∧ (∀ i, i < gs.length → RowI w (gs.getD i 0) (bl.getD i zB).2.2.2 ∧ g < gs.getD i 0) ∧ (∀ i j, i < j → j < gs.length → gs.getD i 0 < gs.getD j 0)
theorem RowB.below {w w' : World} {g n : Nat} {gs : List Nat} {bl : List Bk} (h : RowB w g n gs bl) (hb : Below w.heap.size w w') : RowB w' g n gs bl := by
  obtain ⟨⟨cur, h1, h2, h3⟩, h4, h5⟩ := h
  exact ⟨⟨cur, h1.below hb, h2, h3⟩, fun i hi => ⟨(h4 i hi).1.below hb, (h4 i hi).2⟩, h5⟩
theorem RowB.cell {w : World} {g n : Nat} {gs : List Nat} {bl : List Bk} (h : RowB w g n gs bl) (k : Nat) (hk : k < n) : ∃ v, w.cell? ⟨g, k, none⟩ = some v := by
  obtain ⟨⟨cur, h1, h2, h3⟩, h4, h5⟩ := h
  refine ⟨cur[k], ?_⟩
  rw [h1.cell]
  simp [h2, hk]
theorem RowB.frozen {w : World} {g n : Nat} {gs : List Nat} {bl : List Bk} (h : RowB w g n gs bl) (k : Nat) : w.frozen? ⟨g, k, none⟩ = false := by
  obtain ⟨⟨cur, h1, h2, h3⟩, h4, h5⟩ := h
  exact h1.frozen k
theorem getD_snoc_lt (gs : List Nat) (x i : Nat) (h : i < gs.length) : (gs ++ [x]).getD i 0 = gs.getD i 0 := by
  simp [List.getD_eq_getElem?_getD, List.getElem?_append_left h]
theorem getD_snoc (gs : List Nat) (x : Nat) : (gs ++ [x]).getD gs.length 0 = x := by
  simp [List.getD_eq_getElem?_getD]
theorem RowB.push {w : World} {g n x : Nat} {gs : List Nat} {bl : List Bk} (h : RowB w g n gs bl) (hk : gs.length < n) (hr : RowI w x (bl.getD gs.length zB).2.2.2) (hx : g < x) (hi : ∀ i, i < gs.length → gs.getD i 0 < x) :
    RowB (w.setCell ⟨g, gs.length, none⟩ (.slice (some ⟨x, 0, none⟩) (bl.getD gs.length zB).2.1 (bl.getD gs.length zB).2.1)) g n (gs ++ [x]) bl := by
  obtain ⟨⟨cur, h1, h2, h3⟩, h4, h5⟩ := h
  have key : ∀ y zs, RowI w y zs → g ≠ y → RowI (w.setCell ⟨g, gs.length, none⟩ (.slice (some ⟨x, 0, none⟩) (bl.getD gs.length zB).2.1 (bl.getD gs.length zB).2.1)) y zs := fun y zs hy hne => by
    unfold RowI at *
    rw [heap_setCell_other _ _ _ _ (by dsimp only; omega)]
    exact hy
  refine ⟨⟨_, h1.set gs.length _, by simp [h2], fun i hi' => ?_⟩, fun i hi' => ?_, fun i j hij hj => ?_⟩
  · simp only [List.length_append, List.length_cons, List.length_nil] at hi'
    by_cases e : i = gs.length
    · subst e
      rw [getD_snoc]
      simp [h2, hk]
    · rw [getD_snoc_lt _ _ _ (by omega), ← h3 i (by omega)]
      rw [Array.getElem?_setIfInBounds_ne (by omega)]
  · simp only [List.length_append, List.length_cons, List.length_nil] at hi'
    by_cases e : i = gs.length
    · subst e
      rw [getD_snoc]
      exact ⟨key _ _ hr (by omega), hx⟩
    · rw [getD_snoc_lt _ _ _ (by omega)]
      exact ⟨key _ _ (h4 i (by omega)).1 (by have := (h4 i (by omega)).2; omega), (h4 i (by omega)).2⟩
  · simp only [List.length_append, List.length_cons, List.length_nil] at hj
    by_cases e : j = gs.length
    · subst e
      rw [getD_snoc, getD_snoc_lt _ _ _ hij]
      exact hi i hij
    · rw [getD_snoc_lt _ _ _ (by omega), getD_snoc_lt _ _ _ (by omega)]
      exact h5 i j hij (by omega)
def reb (gs : List Nat) (bl : List Bk) : List Bk := (List.range bl.length).map fun i => (some ⟨gs.getD i 0, 0, none⟩, (bl.getD i zB).2.1, (bl.getD i zB).2.1, (bl.getD i zB).2.2.2)
theorem reb_len (gs : List Nat) (bl : List Bk) : (reb gs bl).length = bl.length := by simp [reb]
theorem reb_at (gs : List Nat) (bl : List Bk) (i : Nat) (hi : i < bl.length) : (reb gs bl).getD i zB = (some ⟨gs.getD i 0, 0, none⟩, (bl.getD i zB).2.1, (bl.getD i zB).2.1, (bl.getD i zB).2.2.2) := by
  simp [reb, List.getD_eq_getElem?_getD, hi]
theorem reb_bko (gs : List Nat) (bl : List Bk) : (reb gs bl).all bko = bl.all bko := by
  have key : ∀ i, i < bl.length → bko ((reb gs bl).getD i zB) = bko (bl.getD i zB) := fun i hi => by rw [reb_at _ _ _ hi]; rfl
  cases h : bl.all bko
  · obtain ⟨x, hx, hb⟩ := List.all_eq_false.1 h
    obtain ⟨i, hi, rfl⟩ := List.getElem_of_mem hx
    exact all_bad _ i (by rw [reb_len]; exact hi) (by rw [key i hi]; simpa [List.getD_eq_getElem?_getD, hi] using hb)
  · refine all_good _ fun j hj => ?_
    rw [reb_len] at hj
    rw [key j hj]
    have := List.all_eq_true.1 h _ (List.getElem_mem hj)
    simpa [List.getD_eq_getElem?_getD, hj] using this
theorem reb_cdo (gs : List Nat) (tn : Nat) (tz : List Int) (bn : Nat) (bl : List Bk) : cdo tn tz bn (reb gs bl) = cdo tn tz bn bl := by unfold cdo; rw [reb_bko]
theorem reb_pcn (gs : List Nat) (tn bn : Nat) (bl : List Bk) (b : Int) (h : bl.length = bn) : pcn tn bn (reb gs bl) b = pcn tn bn bl b := by
  unfold pcn
  split
  · rfl
  · split
    · rename_i h1 h2
      rw [reb_at _ _ _ (by omega)]
    · rfl
theorem reb_exo (gs : List Nat) (tn bn : Nat) (bl : List Bk) (n : Nat) (es : List Ex) (h : bl.length = bn) : exo tn bn (reb gs bl) n es = exo tn bn bl n es := by
  unfold exo ex1
  congr 2
  funext i
  rw [reb_pcn _ _ _ _ _ h]
theorem reb_mdo (gs : List Nat) (nm : ByteArray) (tn : Nat) (tz : List Int) (bn : Nat) (bl : List Bk) (dn : Nat) (bss : Int) (rn : Nat) (rz : List Int) (im : Nat) (ss : List ByteArray) (en : Nat) (es : List Ex) (h : bl.length = bn) :
    mdo nm tn tz bn (reb gs bl) dn bss rn rz im ss en es = mdo nm tn tz bn bl dn bss rn rz im ss en es := by
  unfold mdo
  rw [reb_cdo, reb_exo _ _ _ _ _ _ h]
theorem infoB : (Try.prog.info? 46).map (fun i => (i.zero, i.size, i.bytes)) = some (some (.slice none 0 0), 1, 24) := by kernel_rfl
structure PMod where
  nm : ByteArray
  tz : List Int
  bl : List (List Int)
  dz : List Int
  bss : Int
  rz : List Int
  ss : List ByteArray
  es : List Ex
def bkOf (bl : List (List Int)) : List Bk := bl.map fun l => (none, l.length, l.length, l)
def mdoP (P : PMod) : Int := mdo P.nm P.tz.length P.tz P.bl.length (bkOf P.bl) P.dz.length P.bss P.rz.length P.rz P.ss.length P.ss P.es.length P.es
theorem mdo_bks {nm : ByteArray} {tn : Nat} {tz : List Int} {bl bl' : List Bk} {dn : Nat} {bss : Int} {rn : Nat} {rz : List Int} {im : Nat} {ss : List ByteArray} {en : Nat} {es : List Ex} (hl : bl.length = bl'.length) (h : ∀ i, i < bl.length → (bl.getD i zB).2.1 = (bl'.getD i zB).2.1 ∧ (bl.getD i zB).2.2.2 = (bl'.getD i zB).2.2.2) :
    mdo nm tn tz bl.length bl dn bss rn rz im ss en es = mdo nm tn tz bl.length bl' dn bss rn rz im ss en es := by
  have e : reb [] bl = reb [] bl' := by
    unfold reb
    rw [← hl]
    apply List.map_congr_left
    intro i hi
    have := h i (by simpa using hi)
    rw [this.1, this.2]
  rw [← reb_mdo [] nm tn tz bl.length bl dn bss rn rz im ss en es rfl, e, reb_mdo [] nm tn tz bl.length bl' dn bss rn rz im ss en es hl.symm]
theorem turn_set (w : World) (g i : Nat) (v : Value) : Turn (fun j => j = g) w (w.setCell ⟨g, i, none⟩ v) := ⟨rfl, rfl, rfl, by rw [size_setCell]; exact Nat.le_refl _, fun k _ hk => heap_setCell_other _ _ _ _ hk⟩
def OG {α : Type} (t : TypeId) (sz : Nat) (f : α → List Value) (w : World) (base : Nat) (v : Value) (xs : List α) : Prop := w.ownsRow base t sz v xs.length (xs.flatMap f)
theorem OG.below {α : Type} {t : TypeId} {sz : Nat} {f : α → List Value} {w w' : World} {base : Nat} {v : Value} {xs : List α} (h : OG t sz f w base v xs) (hb : Below w.heap.size w w') : OG t sz f w' base v xs := by
  obtain ⟨hl, h0 | ⟨g, cap, cur, hv, hg, hh, h1, h2, h3, h4⟩⟩ := h
  · exact ⟨hl, .inl h0⟩
  · exact ⟨hl, .inr ⟨g, cap, cur, hv, hg, Blk.below (w := w) hh hb, h1, h2, h3, h4⟩⟩
theorem OG.mono {α : Type} {t : TypeId} {sz : Nat} {f : α → List Value} {w : World} {base base' : Nat} {v : Value} {xs : List α} (h : OG t sz f w base v xs) (hb : base' ≤ base) : OG t sz f w base' v xs := by
  obtain ⟨hl, h0 | ⟨g, cap, cur, hv, hg, hh, h1, h2, h3, h4⟩⟩ := h
  · exact ⟨hl, .inl h0⟩
  · exact ⟨hl, .inr ⟨g, cap, cur, hv, by omega, hh, h1, h2, h3, h4⟩⟩
theorem OG.turn {α : Type} {t : TypeId} {sz : Nat} {f : α → List Value} {S : Nat → Prop} {w w' : World} {base : Nat} {v : Value} {xs : List α} (h : OG t sz f w base v xs) (ht : Turn S w w') (hS : ∀ k, S k → ¬ base ≤ k) : OG t sz f w' base v xs := by
  obtain ⟨hl, h0 | ⟨g, cap, cur, hv, hg, hh, h1, h2, h3, h4⟩⟩ := h
  · exact ⟨hl, .inl h0⟩
  · exact ⟨hl, .inr ⟨g, cap, cur, hv, hg, turn_blk (w := w) ht hh (fun s => hS g s hg), h1, h2, h3, h4⟩⟩
theorem OG.lt {α : Type} {t : TypeId} {sz : Nat} {f : α → List Value} {w : World} {base : Nat} {v : Value} {xs : List α} (h : OG t sz f w base v xs) : ∀ k, v.ownBlock = some k → base ≤ k ∧ k < w.heap.size := World.ownsRow.lt h
theorem og_nil {α : Type} (t : TypeId) (sz : Nat) (f : α → List Value) (w : World) (base : Nat) : OG t sz f w base (.slice none 0 0) [] := ⟨by simp, .inl ⟨rfl, rfl⟩⟩
theorem og_shape {α : Type} {t : TypeId} {sz : Nat} {f : α → List Value} {w : World} {base : Nat} {v : Value} {xs : List α} (h : OG t sz f w base v xs) : ∃ a c, v = .slice a xs.length c := by
  obtain ⟨hl, ⟨h0, h1⟩ | ⟨g, cap, cur, hv, _⟩⟩ := h
  · exact ⟨none, 0, by rw [h0, h1]⟩
  · exact ⟨_, _, hv⟩
theorem turn_grown {S : Nat → Prop} {w W W' : World} {row : Option Nat} (h : Turn S w W) (hg : W.grownBy W' row) (hr : ∀ k, row = some k → w.heap.size ≤ k) : Turn S w W' :=
  ⟨hg.os.trans h.os, hg.tape.trans h.tape, hg.output.trans h.output, Nat.le_trans h.size hg.size, fun k hk hs => (hg.block k (Nat.lt_of_lt_of_le hk h.size) (fun e => by have := hr k e.symm; omega)).trans (h.block k hk hs)⟩
theorem cells_new (w : World) (cs : Array Value) (t : TypeId) (xs : List Value) (h : cs = xs.toArray) : ∀ j u, xs[j]? = some u → (w.alloc (.cells cs t)).cell? ((⟨w.heap.size, 0, none⟩ : Addr).add j) = some u := by
  intro j u hj
  subst h
  rw [addr_add, Nat.zero_add, Blk.cell (Blk.new w _ _)]
  simpa using hj
def clI (x : Int) : List Value := [.int .i64 x]
def clT (x : ByteArray) : List Value := [.string x]
def clX (x : Ex) : List Value := [.string x.1, .int .i64 x.2.1, .int .i64 x.2.2]
theorem turn_new' {S : Nat → Prop} {w W : World} (h : Turn S w W) {k : Nat} (hk : w.heap.size ≤ k) (i : Nat) (v : Value) : Turn S w (W.setCell ⟨k, i, none⟩ v) :=
  ⟨h.os, h.tape, h.output, by rw [size_setCell]; exact h.size, fun j hj hs => by rw [heap_setCell_other _ _ _ _ (by show j ≠ k; omega)]; exact h.block j hj hs⟩
structure OBk (w : World) (base : Nat) (v : Value) (bl : List Bk) : Prop where
  head : w.ownsRow base 46 1 v bl.length (bl.map fun B => Value.slice B.1 B.2.1 B.2.2.1)
  rows : ∀ B ∈ bl, B.2.1 = B.2.2.2.length ∧ OG 3 1 clI w base (.slice B.1 B.2.1 B.2.2.1) B.2.2.2
  apart : bl.Pairwise fun A B => ∀ k, (Value.slice A.1 A.2.1 A.2.2.1).ownBlock = some k → (Value.slice B.1 B.2.1 B.2.2.1).ownBlock ≠ some k
theorem own_kind {w : World} {base n sz : Nat} {t : TypeId} {v : Value} {xs : List Value} {k : Nat} (h : w.ownsRow base t sz v n xs) (hk : v.ownBlock = some k) : ∃ cur, Blk w k cur t := by
  obtain ⟨hl, ⟨h0, _⟩ | ⟨g, cap, cur, hv, _, hh, _⟩⟩ := h
  · subst h0; simp [Value.ownBlock] at hk
  · subst hv
    simp [Value.ownBlock] at hk
    subst hk
    exact ⟨cur, hh⟩
theorem blk_kind {w : World} {k : Nat} {cs cs' : Array Value} {t t' : TypeId} (h : Blk w k cs t) (h' : Blk w k cs' t') : t = t' := by
  unfold Blk at h h'
  rw [h] at h'
  simp at h'
  exact h'.2
theorem OG.grown {α : Type} {t : TypeId} {sz : Nat} {f : α → List Value} {w w' : World} {base : Nat} {v : Value} {xs : List α} {row : Option Nat} (h : OG t sz f w base v xs) (hg : w.grownBy w' row) (hk : v.ownBlock = none ∨ v.ownBlock ≠ row) : OG t sz f w' base v xs := World.ownsRow.kept h hg hk
theorem OBk.turn {S : Nat → Prop} {w w' : World} {base : Nat} {v : Value} {bl : List Bk} (h : OBk w base v bl) (ht : Turn S w w') (hS : ∀ k, S k → ¬ base ≤ k) : OBk w' base v bl := by
  refine ⟨?_, fun B hB => ⟨(h.rows B hB).1, (h.rows B hB).2.turn ht hS⟩, h.apart⟩
  obtain ⟨hl, h0 | ⟨g, cap, cur, hv, hg, hh, h1, h2, h3, h4⟩⟩ := h.head
  · exact ⟨hl, .inl h0⟩
  · exact ⟨hl, .inr ⟨g, cap, cur, hv, hg, turn_blk (w := w) ht hh (fun s => hS g s hg), h1, h2, h3, h4⟩⟩
theorem OBk.lt {w : World} {base : Nat} {v : Value} {bl : List Bk} (h : OBk w base v bl) : ∀ k, v.ownBlock = some k → base ≤ k ∧ k < w.heap.size := h.head.lt
theorem obk_nil (w : World) (base : Nat) : OBk w base (.slice none 0 0) [] := ⟨⟨by simp, .inl ⟨rfl, rfl⟩⟩, by simp, by simp⟩
theorem obk_shape {w : World} {base : Nat} {v : Value} {bl : List Bk} (h : OBk w base v bl) : ∃ a c, v = .slice a bl.length c := by
  obtain ⟨hl, ⟨h0, h1⟩ | ⟨g, cap, cur, hv, _⟩⟩ := h.head
  · exact ⟨none, 0, by rw [h0, h1]⟩
  · exact ⟨_, _, hv⟩
theorem OBk.push {W W' : World} {base lo : Nat} {a : Option Addr} {k c : Nat} {bl : List Bk} {v' : Value} {A : Option Addr} {C : Nat} {x : List Int} (h : OBk W base (.slice a k c) bl) (hl : bl.length = k) (hx : OG 3 1 clI W lo (.slice A x.length C) x) (hb : base ≤ lo) (hlo : ∀ B ∈ bl, ∀ j, (Value.slice B.1 B.2.1 B.2.2.1).ownBlock = some j → j < lo)
    (hown : W'.ownsRow base 46 1 v' (k + 1) (bl.map (fun B => Value.slice B.1 B.2.1 B.2.2.1) ++ [.slice A x.length C])) (hg : W.grownBy W' (Value.slice a k c).ownBlock) : OBk W' base v' (bl ++ [(A, x.length, C, x)]) := by
  have hne : ∀ (v : Value) (xs : List Int) (lo : Nat), OG 3 1 clI W lo v xs → v.ownBlock = none ∨ v.ownBlock ≠ (Value.slice a k c).ownBlock := fun v xs lo ho => by
    cases e : v.ownBlock with
    | none => exact .inl rfl
    | some j =>
      refine .inr (fun e' => ?_)
      obtain ⟨c1, k1⟩ := own_kind ho e
      obtain ⟨c2, k2⟩ := own_kind h.head e'.symm
      exact absurd (blk_kind k1 k2) (by decide)
  refine ⟨?_, ?_, ?_⟩
  · rw [List.length_append, hl, List.map_append]
    exact hown
  · intro B hB
    rcases List.mem_append.1 hB with hB | hB
    · exact ⟨(h.rows B hB).1, (h.rows B hB).2.grown hg (hne _ _ _ (h.rows B hB).2)⟩
    · simp at hB
      subst hB
      exact ⟨rfl, (hx.grown hg (hne _ _ _ hx)).mono hb⟩
  · rw [List.pairwise_append]
    refine ⟨h.apart, by simp, fun B hB X hX j hj e => ?_⟩
    simp at hX
    subst hX
    have h1 := hlo B hB j hj
    have h2 := (hx.lt j e).1
    omega
theorem OBk.mono {w : World} {base base' : Nat} {v : Value} {bl : List Bk} (h : OBk w base v bl) (hb : base' ≤ base) : OBk w base' v bl := by
  refine ⟨?_, fun B hB => ⟨(h.rows B hB).1, (h.rows B hB).2.mono hb⟩, h.apart⟩
  obtain ⟨hl, h0 | ⟨g, cap, cur, hv, hg, hh, h1, h2, h3, h4⟩⟩ := h.head
  · exact ⟨hl, .inl h0⟩
  · exact ⟨hl, .inr ⟨g, cap, cur, hv, by omega, hh, h1, h2, h3, h4⟩⟩
theorem flat_one {α : Type} (f : α → Value) : ∀ xs : List α, xs.flatMap (fun x => [f x]) = xs.map f
  | [] => rfl
  | x :: xs => by rw [List.flatMap_cons, flat_one f xs]; rfl
theorem flat_clI (xs : List Int) : xs.flatMap clI = xs.map (Value.int .i64) := flat_one _ xs
theorem flat_clT (xs : List ByteArray) : xs.flatMap clT = xs.map Value.string := flat_one _ xs
theorem flat_clX : ∀ (xs : List Ex) (i : Nat), i < xs.length → (xs.flatMap clX)[i * 3]? = some (.string (xs.getD i zE).1) ∧ (xs.flatMap clX)[i * 3 + 1]? = some (.int .i64 (xs.getD i zE).2.1) ∧ (xs.flatMap clX)[i * 3 + 2]? = some (.int .i64 (xs.getD i zE).2.2)
  | [], i, h => by simp at h
  | x :: xs, 0, h => ⟨rfl, rfl, rfl⟩
  | x :: xs, i + 1, h => by
    have ih := flat_clX xs i (by simpa using h)
    have e : ∀ d, ((x :: xs).flatMap clX)[(i + 1) * 3 + d]? = (xs.flatMap clX)[i * 3 + d]? := fun d => by
      rw [List.flatMap_cons, List.getElem?_append_right (by simp [clX]; omega)]
      congr 1
      simp [clX]
      omega
    have e0 := e 0
    simp only [Nat.add_zero] at e0
    refine ⟨e0.trans ih.1, (e 1).trans ih.2.1, (e 2).trans ih.2.2⟩
theorem og_parts {α : Type} {t : TypeId} {sz : Nat} {f : α → List Value} {w : World} {base n c : Nat} {a : Option Addr} {xs : List α} (h : OG t sz f w base (.slice a n c) xs) : xs.length = n ∧ n ≤ maxLen ∧ n ≤ c ∧ (n ≠ 0 → ∃ g, a = some ⟨g, 0, none⟩ ∧ ∀ j u, (xs.flatMap f)[j]? = some u → w.cell? ⟨g, j, none⟩ = some u) := by
  have hc := fun g hg => World.ownsRow.cells h (g := g) hg
  obtain ⟨hl, ⟨h0, h1⟩ | ⟨g, cap, cur, hv, hg, hh, h1, h2, h3, h4⟩⟩ := h
  · simp at h0
    obtain ⟨rfl, rfl, rfl⟩ := h0
    exact ⟨h1, Nat.zero_le _, Nat.le_refl _, fun hn => absurd rfl hn⟩
  · simp at hv
    obtain ⟨rfl, rfl, rfl⟩ := hv
    refine ⟨rfl, by omega, h1, fun hn => ⟨g, rfl, fun j u hj => ?_⟩⟩
    have := hc g rfl j u hj
    rwa [addr_add, Nat.zero_add] at this
theorem og_is {w : World} {base n c : Nat} {a : Option Addr} {xs : List Int} (h : OG 3 1 clI w base (.slice a n c) xs) (hx : ∀ z ∈ xs, wfi z) : IS w a n c xs := by
  obtain ⟨h1, h2, h3, h4⟩ := og_parts h
  refine ⟨h1, h2, hx, fun hn => ?_, h3⟩
  obtain ⟨g, rfl, hc⟩ := h4 hn
  refine ⟨g, 0, rfl, fun i hi => ?_⟩
  rw [Nat.zero_add]
  refine hc i _ ?_
  rw [flat_clI]
  simp [List.getD_eq_getElem?_getD, show i < xs.length by omega]
theorem og_ss {w : World} {base n c : Nat} {a : Option Addr} {xs : List ByteArray} (h : OG 9 1 clT w base (.slice a n c) xs) (hx : ∀ s ∈ xs, s.size ≤ 1048576) : SS w a n c xs := by
  obtain ⟨h1, h2, h3, h4⟩ := og_parts h
  refine ⟨h1, h2, hx, fun hn => ?_, h3⟩
  obtain ⟨g, rfl, hc⟩ := h4 hn
  refine ⟨g, 0, rfl, fun i hi => ?_⟩
  rw [Nat.zero_add]
  refine hc i _ ?_
  rw [flat_clT]
  simp [List.getD_eq_getElem?_getD, show i < xs.length by omega]
theorem og_es {w : World} {base n c : Nat} {a : Option Addr} {xs : List Ex} (h : OG 86 3 clX w base (.slice a n c) xs) (hx : ∀ s ∈ xs, s.1.size ≤ 1048576) : ES w a n c xs := by
  obtain ⟨h1, h2, h3, h4⟩ := og_parts h
  refine ⟨h1, h2, hx, fun hn => ?_, h3⟩
  obtain ⟨g, rfl, hc⟩ := h4 hn
  refine ⟨g, 0, rfl, fun i hi => ?_⟩
  rw [Nat.zero_add]
  obtain ⟨f0, f1, f2⟩ := flat_clX xs i (by omega)
  exact ⟨hc _ _ f0, hc _ _ f1, hc _ _ f2⟩
theorem obk_bks {w : World} {base n c : Nat} {a : Option Addr} {bl : List Bk} (h : OBk w base (.slice a n c) bl) (hx : ∀ B ∈ bl, ∀ z ∈ B.2.2.2, wfi z) : BKS w a n c bl := by
  have hh : OG 46 1 (fun B : Bk => [Value.slice B.1 B.2.1 B.2.2.1]) w base (.slice a n c) bl := by unfold OG; rw [flat_one]; exact h.head
  obtain ⟨h1, h2, h3, h4⟩ := og_parts hh
  refine ⟨h1, h2, fun hn => ?_, fun i hi => ?_, h3⟩
  · obtain ⟨g, rfl, hc⟩ := h4 hn
    refine ⟨g, 0, rfl, fun i hi => ?_⟩
    rw [Nat.zero_add]
    refine hc i _ ?_
    rw [flat_one]
    simp [List.getD_eq_getElem?_getD, show i < bl.length by omega]
  · have hm : bl.getD i zB ∈ bl := by simp [List.getD_eq_getElem?_getD, show i < bl.length by omega]
    obtain ⟨e, o⟩ := h.rows _ hm
    exact og_is o (hx _ hm)
theorem OG.kept {α : Type} {t : TypeId} {sz : Nat} {f : α → List Value} {S : Nat → Prop} {w w' : World} {base : Nat} {v : Value} {xs : List α} (h : OG t sz f w base v xs) (ht : Turn S w w') (hk : ∀ k, v.ownBlock = some k → ¬ S k) : OG t sz f w' base v xs := by
  obtain ⟨hl, h0 | ⟨g, cap, cur, hv, hg, hh, h1, h2, h3, h4⟩⟩ := h
  · exact ⟨hl, .inl h0⟩
  · exact ⟨hl, .inr ⟨g, cap, cur, hv, hg, turn_blk (w := w) ht hh (hk g (by rw [hv]; rfl)), h1, h2, h3, h4⟩⟩
structure Vm (nm : ByteArray) (tn : Nat) (tz : List Int) (bn : Nat) (bl : List Bk) (dn : Nat) (bss : Int) (rn : Nat) (rz : List Int) (im : Nat) (ss : List ByteArray) (en : Nat) (es : List Ex) : Prop where
  n : nm.size ≤ 12
  t : tn ≤ 200
  tw : ∀ z ∈ tz, 0 ≤ z ∧ z ≤ 4294967295
  b : bn ≤ 4
  bw : ∀ i, i < bl.length → (bl.getD i zB).2.1 ≤ 64 ∧ ∀ z ∈ (bl.getD i zB).2.2.2, 0 ≤ z ∧ z ≤ 4294967295
  d : dn ≤ 512
  s : 0 ≤ bss ∧ bss ≤ 512
  r : rn ≤ 16
  rw : ∀ i, i < rn → 0 ≤ rz.getD i 0 ∧ rz.getD i 0 ≤ 512
  i : im ≤ 16
  iw : ∀ i, i < im → (ss.getD i zS).size ≤ 25
  e : en ≤ 16
  ew : ∀ i, i < en → (es.getD i zE).1.size ≤ 12 ∧ -1 ≤ (es.getD i zE).2.1 ∧ (es.getD i zE).2.1 ≤ 4 ∧ 0 ≤ (es.getD i zE).2.2 ∧ (es.getD i zE).2.2 ≤ 200
theorem wds_all {zs : List Int} (h : wds zs = true) : ∀ z ∈ zs, 0 ≤ z ∧ z ≤ 4294967295 := fun z hz => by
  unfold wds at h
  rw [List.all_eq_true] at h
  simpa using h z hz
theorem nmo_size {s : ByteArray} (h : nmo s = true) : s.size ≤ 12 := by
  unfold nmo at h
  simp at h
  omega
theorem full_size {s : ByteArray} (h : full s = true) : s.size ≤ 25 := by
  unfold full at h
  simp only [Bool.and_eq_true, decide_eq_true_eq] at h
  obtain ⟨h0, h1, h2⟩ := h
  have a1 := nmo_size h1
  have a2 := nmo_size h2
  have hd := dot_range s
  unfold cutA at a1
  unfold cutB at a2
  simp only [ByteArray.size_extract] at a1 a2
  omega
theorem rng_all {f : Nat → Bool} {n : Nat} (h : (List.range n).all f = true) (i : Nat) (hi : i < n) : f i = true := by
  rw [List.all_eq_true] at h
  exact h i (by simpa using hi)
theorem vm_of_mdo {nm : ByteArray} {tn : Nat} {tz : List Int} {bn : Nat} {bl : List Bk} {dn : Nat} {bss : Int} {rn : Nat} {rz : List Int} {im : Nat} {ss : List ByteArray} {en : Nat} {es : List Ex} (hbl : bl.length = bn) (h : mdo nm tn tz bn bl dn bss rn rz im ss en es = 0) : Vm nm tn tz bn bl dn bss rn rz im ss en es := by
  unfold mdo at h
  by_cases c1 : nmo nm = false
  · rw [if_pos c1] at h; simp at h
  rw [if_neg c1] at h
  by_cases c2 : cdo tn tz bn bl = false
  · rw [if_pos c2] at h; simp at h
  rw [if_neg c2] at h
  by_cases c3 : 512 < dn ∨ bss < 0 ∨ 512 < bss
  · rw [if_pos c3] at h; simp at h
  rw [if_neg c3] at h
  by_cases c4 : rlo rn rz dn = false
  · rw [if_pos c4] at h; simp at h
  rw [if_neg c4] at h
  by_cases c5 : imo im ss = false
  · rw [if_pos c5] at h; simp at h
  rw [if_neg c5] at h
  by_cases c6 : exo tn bn bl en es = false
  · rw [if_pos c6] at h; simp at h
  simp only [Bool.not_eq_false] at c1 c2 c4 c5 c6
  unfold cdo at c2
  unfold rlo at c4
  unfold imo at c5
  unfold exo at c6
  simp only [Bool.and_eq_true, decide_eq_true_eq] at c2 c4 c5 c6
  obtain ⟨⟨t1, t2⟩, t3, t4⟩ := c2
  have hb : ∀ i, i < bl.length → (bl.getD i zB).2.1 ≤ 64 ∧ ∀ z ∈ (bl.getD i zB).2.2.2, 0 ≤ z ∧ z ≤ 4294967295 := fun i hi => by
    rw [List.all_eq_true] at t4
    have hm : bl.getD i zB ∈ bl := by simp [List.getD_eq_getElem?_getD, hi]
    have := t4 _ hm
    unfold bko at this
    simp only [Bool.and_eq_true, decide_eq_true_eq] at this
    exact ⟨this.1.2, wds_all this.2⟩
  refine ⟨nmo_size c1, t1, wds_all t3, t2, hb, by omega, by omega, c4.1, fun i hi => ?_, c5.1, fun i hi => full_size (rng_all c5.2 i hi), c6.1, fun i hi => ?_⟩
  · have := rng_all c4.2 i hi
    unfold rlk at this
    simp only [Bool.and_eq_true, decide_eq_true_eq] at this
    omega
  · have := rng_all c6.2 i hi
    unfold ex1 at this
    simp only [Bool.and_eq_true, decide_eq_true_eq] at this
    obtain ⟨⟨n1, a1, a2⟩, _⟩ := this
    have n2 := nmo_size n1
    have hp : pcn tn bn bl (es.getD i zE).2.1 ≤ 200 ∧ (0 < pcn tn bn bl (es.getD i zE).2.1 → -1 ≤ (es.getD i zE).2.1 ∧ (es.getD i zE).2.1 ≤ 4) := by
      unfold pcn
      split
      · omega
      · split
        · next h1 h2 =>
          have := (hb (es.getD i zE).2.1.toNat (by omega)).1
          omega
        · omega
    have := hp.2 (by omega)
    omega
def pN (s : Nat) (zs : List Int) : Option (Int × List Int) := if s ≤ zs.length then some (low (zs.take s), zs.drop s) else none
def pB (n : Nat) (zs : List Int) : Option (List Int × List Int) := if n ≤ zs.length then some (zs.take n, zs.drop n) else none
def strOf (bs : List Int) : ByteArray := ⟨(bs.map fun z => UInt8.ofNat z.toNat).toArray⟩
def pT (zs : List Int) : Option (ByteArray × List Int) := (pN 1 zs).bind fun x => (pB x.1.toNat x.2).map fun y => (strOf y.1, y.2)
def pM {α : Type} (p : List Int → Option (α × List Int)) : Nat → List Int → Option (List α × List Int)
  | 0, zs => some ([], zs)
  | k + 1, zs => (pM p k zs).bind fun x => (p x.2).map fun y => (x.1 ++ [y.1], y.2)
def pL (zs : List Int) : Option (List Int × List Int) := (pN 2 zs).bind fun x => pM (pN 4) x.1.toNat x.2
def pX (zs : List Int) : Option (Ex × List Int) := (pT zs).bind fun x => (pN 1 x.2).bind fun y => (pN 2 y.2).map fun z => ((x.1, y.1 - 1, z.1), z.2)
def pMod (zs : List Int) : Option (PMod × List Int) :=
  (pT zs).bind fun a => (pL a.2).bind fun b => (pN 1 b.2).bind fun nb => (pM pL nb.1.toNat nb.2).bind fun c => (pN 2 c.2).bind fun nd => (pB nd.1.toNat nd.2).bind fun d => (pN 2 d.2).bind fun e => (pN 1 e.2).bind fun nr => (pM (pN 2) nr.1.toNat nr.2).bind fun f => (pN 1 f.2).bind fun ni => (pM pT ni.1.toNat ni.2).bind fun g => (pN 1 g.2).bind fun ne => (pM pX ne.1.toNat ne.2).map fun h => (⟨a.1, b.1, c.1, d.1, e.1, f.1, g.1, h.1⟩, h.2)
theorem pN_some {s : Nat} {zs : List Int} (h : s ≤ zs.length) : pN s zs = some (low (zs.take s), zs.drop s) := if_pos h
theorem pN_none {s : Nat} {zs : List Int} (h : ¬ s ≤ zs.length) : pN s zs = none := if_neg h
theorem pB_some {s : Nat} {zs : List Int} (h : s ≤ zs.length) : pB s zs = some (zs.take s, zs.drop s) := if_pos h
theorem pB_none {s : Nat} {zs : List Int} (h : ¬ s ≤ zs.length) : pB s zs = none := if_neg h
theorem pM_none {α : Type} {p : List Int → Option (α × List Int)} {k : Nat} {zs : List Int} (h : pM p k zs = none) : ∀ j, pM p (k + j) zs = none
  | 0 => h
  | j + 1 => by
    show (pM p (k + j) zs).bind _ = none
    rw [pM_none h j]; rfl
theorem pM_succ {α : Type} {p : List Int → Option (α × List Int)} {k : Nat} {zs r : List Int} {xs : List α} (h : pM p k zs = some (xs, r)) : pM p (k + 1) zs = (p r).map fun y => (xs ++ [y.1], y.2) := by
  show (pM p k zs).bind _ = _
  rw [h]; rfl
theorem pM_len {α : Type} {p : List Int → Option (α × List Int)} : ∀ {k : Nat} {zs r : List Int} {xs : List α}, pM p k zs = some (xs, r) → xs.length = k
  | 0, zs, r, xs, h => by
    have h' : some (([] : List α), zs) = some (xs, r) := h
    simp at h'
    simp [← h'.1]
  | k + 1, zs, r, xs, h => by
    have h' : (pM p k zs).bind (fun x => (p x.2).map fun y => (x.1 ++ [y.1], y.2)) = some (xs, r) := h
    cases e : pM p k zs with
    | none => rw [e] at h'; simp at h'
    | some x =>
      obtain ⟨ys, r'⟩ := x
      have ih := pM_len e
      rw [e] at h'
      simp only [Option.bind_some, Option.map_eq_some_iff] at h'
      obtain ⟨y, _, h2⟩ := h'
      simp at h2
      rw [← h2.1]
      simp [ih]
def Tails {α : Type} (p : List Int → Option (α × List Int)) : Prop := ∀ zs x r, p zs = some (x, r) → ∃ k, k ≤ zs.length ∧ r = zs.drop k
theorem tails_pN (s : Nat) : Tails (pN s) := fun zs x r h => by
  unfold pN at h
  split at h
  · simp at h; exact ⟨s, by assumption, h.2.symm⟩
  · simp at h
def panicE (c : Int) : Ending := .panicked [{ v := .iface 114 (.int .i64 c), recovered := false }]
structure RdI (W : World) (g b n cap : Nat) (zs r : List Int) : Prop where
  pos : ∃ k a, k ≤ n ∧ r = zs.drop k ∧ Blk W g #[.slice (some ⟨b, a, none⟩) (n - k) (cap - k)] 116 ∧ (cap - k ≠ 0 → a = k)
  bs : BS W (some ⟨b, 0, none⟩) n cap zs
  ne : b ≠ g
  small : n ≤ 1048576
theorem RdI.below {W W' : World} {g b n cap : Nat} {zs r : List Int} (h : RdI W g b n cap zs r) (hb : Below W.heap.size W W') : RdI W' g b n cap zs r := by
  obtain ⟨k, a, h1, h2, h3, h4⟩ := h.pos
  exact ⟨⟨k, a, h1, h2, h3.below hb, h4⟩, h.bs.below hb, h.ne, h.small⟩
theorem RdI.range {W : World} {g b n cap : Nat} {zs r : List Int} (h : RdI W g b n cap zs r) : ∀ z ∈ r, 0 ≤ z ∧ z ≤ 255 := by
  obtain ⟨k, a, h1, rfl, h3, h4⟩ := h.pos
  exact fun z hz => h.bs.2.2.1 z (List.mem_of_mem_drop hz)
def RP {α : Type} (w : World) (g b n cap : Nat) (zs : List Int) (R : α → Value → World → Prop) (p : Option (α × List Int)) (e : Ending) (w' : World) : Prop :=
  Turn (fun j => j = g) w w' ∧ match p with
    | some x => ∃ v, e = .returned v ∧ R x.1 v w' ∧ RdI w' g b n cap zs x.2
    | none => e = panicE 2
def isB (x : List Int) (v : Value) (w : World) : Prop := ∃ b k c, v = .slice (some ⟨b, k, none⟩) x.length c ∧ BS w (some ⟨b, k, none⟩) x.length c x
theorem RdI.set {W : World} {g b n cap : Nat} {zs r : List Int} (h : RdI W g b n cap zs r) (k a : Nat) (hk : k ≤ n) (ha : cap - k ≠ 0 → a = k) (v : Value) (hv : v = .slice (some ⟨b, a, none⟩) (n - k) (cap - k)) : RdI (W.setCell ⟨g, 0, none⟩ v) g b n cap zs (zs.drop k) := by
  obtain ⟨k', a', h1, h2, h3, h4⟩ := h.pos
  refine ⟨⟨k, a, hk, rfl, ?_, ha⟩, turn_bs (turn_set W g 0 v) h.bs (fun j hj b' off e => by simp at e; rw [hj, ← e.1]; exact h.ne), h.ne, h.small⟩
  rw [← hv]
  simpa using h3.set 0 v
set_option maxHeartbeats 1000000 in
theorem take_any (g b n cap : Nat) (zs r : List Int) (m : Nat) (w : World) (h : RdI w g b n cap zs r) (hm : m ≤ 1048576) :
    Calls Try.prog 126 #[.pointer (some ⟨g, 0, none⟩), .int .i64 m] w (RP w g b n cap zs isB (pB m r)) := by
  obtain ⟨k, a, hk, hr, hb, ha⟩ := h.pos
  have hl := h.bs.1
  have hcap := h.bs.2.2.2.2
  have hsm := h.small
  have hrl : r.length = n - k := by rw [hr, List.length_drop, hl]
  have q0 := hb.cell 0
  have f0 := hb.frozen 0
  simp at q0
  by_cases c : m ≤ r.length
  · have hc : m ≤ n - k := by omega
    have hp : pB m r = some (r.take m, r.drop m) := pB_some c
    rw [hp]
    have hlt : (r.take m).length = m := by rw [List.length_take]; omega
    have hrd : r.drop m = zs.drop (k + m) := by rw [hr, List.drop_drop]
    have hB1 : BS w (some ⟨b, a, none⟩) m (cap - k) (r.take m) := by
      by_cases hz : cap - k = 0
      · have : m = 0 := by omega
        subst this
        exact ⟨by simp, by unfold maxLen; omega, by simp, fun h => absurd rfl h, by omega⟩
      · have := (h.bs.drop k hk).take m hc
        rw [Nat.zero_add] at this
        rw [ha hz, hr]
        exact this
    have hx1 : (m : Int) ≤ ((n - k : Nat) : Int) := by omega
    have hx2 : ((n - k : Nat) : Int) ≤ ((cap - k : Nat) : Int) := by omega
    have hx0 : ¬ (((n - k : Nat) : Int) < (m : Int)) := by omega
    by_cases hcm : cap - k = m
    · have hck : n - k = m := by omega
      rw [hcm] at hB1
      have HP := hide (And.intro hB1 (And.intro h (And.intro hrd (And.intro hlt (show cap - (k + m) = 0 by omega)))))
      have hkm : k + m ≤ n := by omega
      have HW := hide (show n - (k + m) = 0 by omega)
      clear h hp hB1 hb hr hrl c hrd hlt ha hx0 hx1 hx2 hc
      rw [hck, hcm] at q0
      clear hck hcm
      go_enter Try.func126, Try.ntmps126
      go_wp2
      go_ret
      obtain ⟨hB1, h, hrd, hlt, hce⟩ := HP.out
      refine ⟨turn_set _ _ _ _, _, rfl, ⟨b, a, m, by rw [hlt]; rfl, ?_⟩, ?_⟩
      · rw [hlt]
        exact turn_bs (turn_set _ _ _ _) hB1 (fun j hj b' off e => by simp at e; rw [hj, ← e.1]; exact h.ne)
      · rw [hrd]
        refine h.set (k + m) a hkm (fun e => absurd hce e) _ ?_
        rw [HW.out, hce]
        try simp
    · have ha' := ha (by omega)
      subst ha'
      have HP := hide (And.intro hB1 (And.intro h (And.intro hrd hlt)))
      have hkm : a + m ≤ n := by omega
      clear h hp hB1 hb hr hrl c hrd hlt ha
      go_enter Try.func126, Try.ntmps126
      go_wp2
      go_ret
      obtain ⟨hB1, h, hrd, hlt⟩ := HP.out
      refine ⟨turn_set _ _ _ _, _, rfl, ⟨b, a, cap - a, by rw [hlt]; rfl, ?_⟩, ?_⟩
      · rw [hlt]
        exact turn_bs (turn_set _ _ _ _) hB1 (fun j hj b' off e => by simp at e; rw [hj, ← e.1]; exact h.ne)
      · rw [hrd]
        refine h.set (a + m) (a + m) hkm (fun e => rfl) _ ?_
        rw [Nat.sub_sub, Nat.sub_sub]
  · have hc : ((n - k : Nat) : Int) < (m : Int) := by omega
    rw [pB_none c]
    clear h hr hb
    go_enter Try.func126, Try.ntmps126
    go_wp2
    exact ⟨rfl, Turn.refl _ _, rfl⟩
theorem RP.none {α : Type} {w w' : World} {g b n cap : Nat} {zs : List Int} {R : α → Value → World → Prop} {p : Option (α × List Int)} {e : Ending} (h : RP w g b n cap zs R p e w') (hp : p = none) : Turn (fun j => j = g) w w' ∧ e = panicE 2 := by
  subst hp
  exact h
theorem RP.some {α : Type} {w w' : World} {g b n cap : Nat} {zs : List Int} {R : α → Value → World → Prop} {p : Option (α × List Int)} {e : Ending} {x : α} {r : List Int} (h : RP w g b n cap zs R p e w') (hp : p = Option.some (x, r)) : Turn (fun j => j = g) w w' ∧ ∃ v, e = .returned v ∧ R x v w' ∧ RdI w' g b n cap zs r := by
  subst hp
  exact h
theorem RP.ofNone {α : Type} {w w' : World} {g b n cap : Nat} {zs : List Int} {R : α → Value → World → Prop} {p : Option (α × List Int)} (hp : p = Option.none) (h : Turn (fun j => j = g) w w') : RP w g b n cap zs R p (panicE 2) w' := by
  subst hp
  exact ⟨h, rfl⟩
theorem RP.ofSome {α : Type} {w w' : World} {g b n cap : Nat} {zs : List Int} {R : α → Value → World → Prop} {p : Option (α × List Int)} {v : Value} {x : α} {r : List Int} (hp : p = Option.some (x, r)) (h : Turn (fun j => j = g) w w') (hv : R x v w') (hr : RdI w' g b n cap zs r) : RP w g b n cap zs R p (.returned v) w' := by
  subst hp
  exact ⟨h, v, rfl, hv, hr⟩
def isN (x : Int) (v : Value) (w : World) : Prop := v = .int .i64 x
theorem getBytes_any (b off n cap s : Nat) (zs : List Int) (w : World) (h : BS w (some ⟨b, off, none⟩) n cap zs) (hs : s = 1 ∨ s = 2 ∨ s = 4) (hn : s ≤ n) :
    Calls Try.prog 53 #[.slice (some ⟨b, off, none⟩) n cap, .int .i64 s] w fun e w' => e = .returned (.int .i64 (low (zs.take s))) ∧ Below w.heap.size w w' := by
  rcases hs with rfl | rfl | rfl
  · exact getBytes_1 b off n cap zs w h hn
  · exact getBytes_2 b off n cap zs w h hn
  · exact getBytes_4 b off n cap zs w h hn
set_option maxHeartbeats 1000000 in
theorem number_rd (g b n cap : Nat) (zs r : List Int) (s : Nat) (w : World) (h : RdI w g b n cap zs r) (hs : s = 1 ∨ s = 2 ∨ s = 4) :
    Calls Try.prog 130 #[.pointer (some ⟨g, 0, none⟩), .int .i64 s] w (RP w g b n cap zs isN (pN s r)) := by
  have HT := hide (take_any g b n cap zs r s w h (by omega))
  by_cases c : s ≤ r.length
  · have hlt : (r.take s).length = s := by rw [List.length_take]; omega
    have htt : (r.take s).take s = r.take s := by rw [List.take_take, Nat.min_self]
    rw [pN_some c]
    go_enter Try.func130, Try.ntmps130
    go_wp2_with fail
    refine HT.out.mono ?_
    intro e w1 H
    obtain ⟨T1, v, rfl, ⟨b', k, c', rfl, hB⟩, R1⟩ := H.some (pB_some c)
    rw [hlt] at hB ⊢
    have HG := hide (getBytes_any b' k s c' s (r.take s) w1 hB hs (Nat.le_refl _))
    rw [htt] at HG
    have HR := hide (And.intro T1 R1)
    clear T1 R1 hB
    go_wp2_with fail
    refine HG.out.mono ?_
    rintro e w2 ⟨rfl, hb2⟩
    have HR2 := hide (And.intro (HR.out.1.trans (turn_below hb2)) (HR.out.2.below hb2))
    go_wp2
    go_ret
    exact ⟨HR2.out.1, _, rfl, rfl, HR2.out.2⟩
  · rw [pN_none c]
    go_enter Try.func130, Try.ntmps130
    go_wp2_with fail
    refine HT.out.mono ?_
    intro e w1 H
    obtain ⟨T1, rfl⟩ := H.none (pB_none c)
    unfold panicE
    go_wp2
    exact ⟨rfl, T1, rfl⟩
theorem count_rd (g b n cap : Nat) (zs r : List Int) (w : World) (h : RdI w g b n cap zs r) :
    Calls Try.prog 131 #[.pointer (some ⟨g, 0, none⟩)] w (RP w g b n cap zs isN (pN 2 r)) := by
  have HN := hide (number_rd g b n cap zs r 2 w h (Or.inr (Or.inl rfl)))
  go_enter Try.func131, Try.ntmps131
  go_wp2_with fail
  refine HN.out.mono ?_
  intro e w1 H
  cases hp : pN 2 r with
  | none =>
    obtain ⟨T1, rfl⟩ := H.none hp
    unfold panicE
    go_wp2
    exact ⟨rfl, RP.ofNone rfl T1⟩
  | some x =>
    obtain ⟨T1, v, rfl, hv, R1⟩ := H.some hp
    go_wp2
    go_ret
    exact RP.ofSome hp T1 hv R1
theorem word_rd (g b n cap : Nat) (zs r : List Int) (w : World) (h : RdI w g b n cap zs r) :
    Calls Try.prog 142 #[.pointer (some ⟨g, 0, none⟩)] w (RP w g b n cap zs isN (pN 4 r)) := by
  have HN := hide (number_rd g b n cap zs r 4 w h (Or.inr (Or.inr rfl)))
  go_enter Try.func142, Try.ntmps142
  go_wp2_with fail
  refine HN.out.mono ?_
  intro e w1 H
  cases hp : pN 4 r with
  | none =>
    obtain ⟨T1, rfl⟩ := H.none hp
    unfold panicE
    go_wp2
    exact ⟨rfl, RP.ofNone rfl T1⟩
  | some x =>
    obtain ⟨T1, v, rfl, hv, R1⟩ := H.some hp
    go_wp2
    go_ret
    exact RP.ofSome hp T1 hv R1
def isS (x : ByteArray) (v : Value) (w : World) : Prop := v = .string x
theorem low1 {zs : List Int} (h : 1 ≤ zs.length) : low (zs.take 1) = zs.getD 0 0 := by
  rw [take1 zs h]
  show low [] * 256 + _ = _ <;> simp [low]
theorem run_text (w : World) (b k c : Nat) (x : List Int) (h : BS w (some ⟨b, k, none⟩) x.length c x) : (convert 22 9 (.slice (some ⟨b, k, none⟩) x.length c)).run Try.prog w = .ok (.string (strOf x)) w := by
  have hl : (x.map fun z => UInt8.ofNat z.toNat).length = x.length := by simp
  have := run_convert_bytes_back (P := Try.prog) w 22 9 5 ⟨b, k, none⟩ c (x.map fun z => UInt8.ofNat z.toNat) Try.underlying22 Try.underlying5 Try.underlying9 (fun j hj => by
    have hj' : j < x.length := by simpa using hj
    rw [addr_add, h.at j hj']
    have hz := h.range j
    have e1 : x.getD j 0 = x[j] := by simp [List.getD_eq_getElem?_getD, hj']
    have e2 : (UInt8.ofNat (x[j]).toNat).toNat = (x[j]).toNat % 256 := UInt8.toNat_ofNat'
    rw [List.getElem_map, e2, e1]
    rw [e1] at hz
    congr 2
    omega)
  rw [hl] at this
  exact this
set_option maxHeartbeats 1000000 in
theorem text_rd (g b n cap : Nat) (zs r : List Int) (w : World) (h : RdI w g b n cap zs r) :
    Calls Try.prog 127 #[.pointer (some ⟨g, 0, none⟩)] w (RP w g b n cap zs isS (pT r)) := by
  have HN := hide (number_rd g b n cap zs r 1 w h (Or.inl rfl))
  by_cases c : 1 ≤ r.length
  · have hp := pN_some (s := 1) c
    have hrg := h.range
    have hx : 0 ≤ low (r.take 1) ∧ low (r.take 1) ≤ 4294967295 := low_small _ (fun z hz => hrg z (List.mem_of_mem_take hz)) (by rw [List.length_take]; omega)
    have hx2 : low (r.take 1) ≤ 255 := by
      rw [low1 c]
      have : r.getD 0 0 ∈ r := by simp [List.getD_eq_getElem?_getD, show 0 < r.length by omega]
      exact (hrg _ this).2
    have hPT : pT r = (pB (low (r.take 1)).toNat (r.drop 1)).map fun y => (strOf y.1, y.2) := by unfold pT; rw [hp]; rfl
    rw [hPT]
    obtain ⟨m, hm⟩ : ∃ m : Nat, low (r.take 1) = (m : Int) := ⟨(low (r.take 1)).toNat, by omega⟩
    rw [hm] at hp hx hx2 ⊢
    rw [Int.toNat_natCast]
    clear hPT
    have hm' : m ≤ 255 := by omega
    go_enter Try.func127, Try.ntmps127
    go_wp2_with fail
    refine HN.out.mono ?_
    intro e w1 H
    obtain ⟨T1, v, rfl, hv, R1⟩ := H.some hp
    obtain rfl : v = .int .i64 m := hv
    have HT := hide (take_any g b n cap zs (r.drop 1) m w1 R1 (by omega))
    clear H HN
    go_wp2_with fail
    refine HT.out.mono ?_
    intro e w2 H
    cases hq : pB m (r.drop 1) with
    | none =>
      obtain ⟨T2, rfl⟩ := H.none hq
      unfold panicE
      go_wp2
      exact ⟨rfl, RP.ofNone (by rw [hq]; rfl) (T1.trans T2)⟩
    | some x =>
      obtain ⟨x, r'⟩ := x
      obtain ⟨T2, v, rfl, ⟨b', k, c', rfl, hB⟩, R2⟩ := H.some hq
      have hcv := run_text w2 b' k c' x hB
      have HR := hide (And.intro (T1.trans T2) R2)
      clear T1 T2 R1 R2 hB H HT
      go_wp2
      go_ret
      exact RP.ofSome (x := strOf x) (r := r') (by rw [hq]; rfl) HR.out.1 rfl HR.out.2
  · have hp := pN_none (s := 1) c
    have hPT : pT r = none := by unfold pT; rw [hp]; rfl
    rw [hPT]
    go_enter Try.func127, Try.ntmps127
    go_wp2_with fail
    refine HN.out.mono ?_
    intro e w1 H
    obtain ⟨T1, rfl⟩ := H.none hp
    unfold panicE
    go_wp2
    exact ⟨rfl, RP.ofNone rfl T1⟩
end Go.Proofs.Ytngdgogjlpjjpac
