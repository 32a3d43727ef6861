import Derived.Test.YtngdgogjlpjjpacP18
import Derived.Test.YtngdgogjlpjjpacP21
import Derived.Test.YtngdgogjlpjjpacP22
import Derived.Test.YtngdgogjlpjjpacP25
namespace Go.Proofs.Ytngdgogjlpjjpac
open Go.RowKit
set_option linter.unusedVariables false
set_option linter.unusedSimpArgs false
set_option maxRecDepth 100000
set_option maxHeartbeats 4000000 in
theorem iModuleOk_any (nm : ByteArray) (ta : Option Addr) (tn tc : Nat) (tz : List Int) (ba : Option Addr) (bn bc : Nat) (bl : List Bk) (da : Option Addr) (dn dc : Nat) (dz : List Int) (bss : Int) (ra : Option Addr) (rn rc : Nat) (rz : List Int) (ia : Option Addr) (im ic : Nat) (ss : List ByteArray) (ea : Option Addr) (en ec : Nat) (es : List Ex) (w : World)
    (h : MD w nm ta tn tc tz ba bn bc bl da dn dc dz bss ra rn rc rz ia im ic ss ea en ec es) :
    Calls Try.prog 26 #[.agg #[.string nm, .slice ta tn tc, .slice ba bn bc, .slice da dn dc, .int .i64 bss, .slice ra rn rc, .slice ia im ic, .slice ea en ec]] w fun e w' => e = .returned (.int .i64 (mdo nm tn tz bn bl dn bss rn rz im ss en es)) ∧ Below w.heap.size w w' := by
  obtain ⟨W, hW⟩ : ∃ W, W = w.alloc (.cells #[.string nm, .slice ta tn tc, .slice ba bn bc, .slice da dn dc, .int .i64 bss, .slice ra rn rc, .slice ia im ic, .slice ea en ec] 56) := ⟨_, rfl⟩
  have hB0 : Below w.heap.size w W := by rw [hW]; exact (Below.refl _ _).alloc (Nat.le_refl _) _
  have kb : Blk W w.heap.size #[.string nm, .slice ta tn tc, .slice ba bn bc, .slice da dn dc, .int .i64 bss, .slice ra rn rc, .slice ia im ic, .slice ea en ec] 56 := by rw [hW]; exact Blk.new _ _ _
  obtain ⟨r, hr⟩ : ∃ r, r = mdo nm tn tz bn bl dn bss rn rz im ss en es := ⟨_, rfl⟩
  rw [← hr]
  unfold mdo at hr
  have HRR := hide hr
  clear hr
  have H0 := h.below hB0
  have hmd := h.d.2.1
  have htn := h.t.2.1
  have HN := hide (fun w => isName_any nm w h.n)
  have HCd := hide (fun w ht hb => codeOk_any nm ta tn tc tz ba bn bc bl (.slice da dn dc) (.slice ra rn rc) (.slice ia im ic) (.slice ea en ec) bss w ht hb)
  have HRl := hide (fun w h => relocsOk_any nm (.slice ta tn tc) (.slice ba bn bc) da dn dc bss ra rn rc rz (.slice ia im ic) (.slice ea en ec) w hmd h)
  have HIm := hide (fun w h => importsOk_any nm (.slice ta tn tc) (.slice ba bn bc) (.slice da dn dc) (.slice ra rn rc) (.slice ea en ec) bss ia im ic ss w h)
  have HEx := hide (fun w hb h => exportsOk_any nm ta tn tc ba bn bc bl (.slice da dn dc) (.slice ra rn rc) (.slice ia im ic) bss ea en ec es w htn hb h)
  have HU := hide (fun w => isUpTo_any bss 512 w)
  unfold maxLen at hmd
  obtain ⟨s0, s1⟩ := h.s
  clear h htn
  have HW := hide hW
  clear hW
  generalize nmo nm = a1 at *
  generalize cdo tn tz bn bl = a2 at *
  generalize rlo rn rz dn = a4 at *
  generalize imo im ss = a5 at *
  generalize exo tn bn bl en es = a6 at *
  obtain ⟨q0, q1, q2, q3, q4, q5, q6, q7⟩ := kb.eight
  go_enter Try.func26, Try.ntmps26
  go_wp2_with (first | (rw [← HW.out]) | (go_at_call 76; refine (HN.out _).mono ?_; rintro e w1 ⟨rfl, rfl⟩; cases a1))
  · have e := hide (show r = 1 from by rw [HRR.out]; simp)
    go_ret
    exact ⟨ret_int e.out.symm, hB0⟩
  · refine (HCd.out _ H0.t H0.b).mono ?_
    rintro e w2 ⟨rfl, hb2⟩
    have kb2 := kb.below hb2
    have H2 := H0.below hb2
    have hB2 := hB0.trans (hb2.mono hB0.size)
    clear hb2 kb H0 hB0 q0 q1 q2 q3 q4 q5 q6 q7
    obtain ⟨q0, q1, q2, q3, q4, q5, q6, q7⟩ := kb2.eight
    cases a2
    · have e := hide (show r = 2 from by rw [HRR.out]; simp)
      go_wp2
      go_ret
      exact ⟨ret_int e.out.symm, hB2⟩
    · by_cases c1 : 512 < dn
      · have e := hide (show r = 3 from by rw [HRR.out]; simp [c1])
        have c1' : (512 : Int) < (dn : Int) := by omega
        go_wp2
        go_ret
        exact ⟨ret_int e.out.symm, hB2⟩
      · have c1' : ¬ (512 : Int) < (dn : Int) := by omega
        by_cases c2 : 0 ≤ bss ∧ bss ≤ 512
        · have HR2 := hide (show r = if a4 = false then 4 else if a5 = false then 5 else if a6 = false then 6 else 0 from by
            rw [HRR.out]
            simp only [Bool.true_eq_false, if_false, show ¬ (512 < dn ∨ bss < 0 ∨ 512 < bss) by omega])
          clear HRR
          rw [decide_eq_true c2] at HU
          go_wp2_with (go_at_call 78; refine (HU.out _).mono ?_; rintro e w1 ⟨rfl, rfl⟩)
          refine (HRl.out _ H2.r).mono ?_
          rintro e w3 ⟨rfl, hb3⟩
          have kb3 := kb2.below hb3
          have H3 := H2.below hb3
          have hB3 := hB2.trans (hb3.mono hB2.size)
          clear hb3 kb2 H2 hB2 q0 q1 q2 q3 q4 q5 q6 q7
          obtain ⟨q0, q1, q2, q3, q4, q5, q6, q7⟩ := kb3.eight
          cases a4
          · have e := hide (show r = 4 from by rw [HR2.out]; simp)
            go_wp2
            go_ret
            exact ⟨ret_int e.out.symm, hB3⟩
          · go_wp2_with fail
            refine (HIm.out _ H3.i).mono ?_
            rintro e w4 ⟨rfl, hb4⟩
            have kb4 := kb3.below hb4
            have H4 := H3.below hb4
            have hB4 := hB3.trans (hb4.mono hB3.size)
            clear hb4 kb3 H3 hB3 q0 q1 q2 q3 q4 q5 q6 q7
            obtain ⟨q0, q1, q2, q3, q4, q5, q6, q7⟩ := kb4.eight
            cases a5
            · have e := hide (show r = 5 from by rw [HR2.out]; simp)
              go_wp2
              go_ret
              exact ⟨ret_int e.out.symm, hB4⟩
            · go_wp2_with fail
              refine (HEx.out _ H4.b H4.e).mono ?_
              rintro e w5 ⟨rfl, hb5⟩
              have hB5 := hB4.trans (hb5.mono hB4.size)
              clear hb5 H4 hB4 kb4
              cases a6
              · have e := hide (show r = 6 from by rw [HR2.out]; simp)
                go_wp2
                go_ret
                exact ⟨ret_int e.out.symm, hB5⟩
              · have e := hide (show r = 0 from by rw [HR2.out]; simp)
                go_wp2
                go_ret
                exact ⟨ret_int e.out.symm, hB5⟩
        · rw [decide_eq_false c2] at HU
          have e := hide (show r = 3 from by rw [HRR.out]; simp only [Bool.true_eq_false, if_false, show (512 < dn ∨ bss < 0 ∨ 512 < bss) by omega, if_true])
          go_wp2_with (go_at_call 78; refine (HU.out _).mono ?_; rintro e w1 ⟨rfl, rfl⟩)
          go_ret
          exact ⟨ret_int e.out.symm, hB2⟩
def encBs (bl : List Bk) (k : Nat) : List Int := (bl.take k).flatMap fun b => encL b.2.2.2
def encTs (ss : List ByteArray) (k : Nat) : List Int := (ss.take k).flatMap encT
def encX (x : Ex) : List Int := encT x.1 ++ (encN (x.2.1 + 1) 1 ++ encN x.2.2 2)
def encXs (es : List Ex) (k : Nat) : List Int := (es.take k).flatMap encX
theorem flat_succ {α : Type} (f : α → List Int) (l : List α) (z : α) (k : Nat) (h : k < l.length) : (l.take (k + 1)).flatMap f = (l.take k).flatMap f ++ f (l.getD k z) := by
  rw [List.take_succ_eq_append_getElem h, List.flatMap_append]
  simp [List.getD_eq_getElem?_getD, h]
def enc0 (nm : ByteArray) : List Int := [88, 77] ++ encT nm
def enc1 (nm : ByteArray) (tz : List Int) (bn : Nat) : List Int := enc0 nm ++ encL tz ++ encN bn 1
def enc2 (nm : ByteArray) (tz : List Int) (bn : Nat) (bl : List Bk) (dn : Nat) (dz : List Int) (bss : Int) (rn : Nat) : List Int := enc1 nm tz bn ++ encBs bl bn ++ encN dn 2 ++ dz ++ encN bss 2 ++ encN rn 1
def enc3 (nm : ByteArray) (tz : List Int) (bn : Nat) (bl : List Bk) (dn : Nat) (dz : List Int) (bss : Int) (rn : Nat) (rz : List Int) (im : Nat) : List Int := enc2 nm tz bn bl dn dz bss rn ++ encW 2 rz rn ++ encN im 1
def enc4 (nm : ByteArray) (tz : List Int) (bn : Nat) (bl : List Bk) (dn : Nat) (dz : List Int) (bss : Int) (rn : Nat) (rz : List Int) (im : Nat) (ss : List ByteArray) (en : Nat) : List Int := enc3 nm tz bn bl dn dz bss rn rz im ++ encTs ss im ++ encN en 1
def encM (nm : ByteArray) (tz : List Int) (bn : Nat) (bl : List Bk) (dn : Nat) (dz : List Int) (bss : Int) (rn : Nat) (rz : List Int) (im : Nat) (ss : List ByteArray) (en : Nat) (es : List Ex) : List Int := enc4 nm tz bn bl dn dz bss rn rz im ss en ++ encXs es en
structure Ew (w W : World) (mc : Array Value) (q n c : Nat) (out : List Int) : Prop where
  box : Blk W w.heap.size mc 56
  o : OB W (w.heap.size + 1) (.slice (some ⟨q, 0, none⟩) n c) out
  below : Below w.heap.size w W
  small : out.length ≤ 40000
theorem Ew.step {w W W' : World} {mc : Array Value} {q n c : Nat} {out : List Int} (h : Ew w W mc q n c out) (b : Below W.heap.size W W') : Ew w W' mc q n c out :=
  ⟨h.box.below b, h.o.below b, h.below.trans (b.mono h.below.size), h.small⟩
theorem Ew.len {w W : World} {mc : Array Value} {q n c : Nat} {out : List Int} (h : Ew w W mc q n c out) : out.length = n := h.o.bs.1
theorem Ew.sz {w W : World} {mc : Array Value} {q n c : Nat} {out : List Int} (h : Ew w W mc q n c out) : w.heap.size + 1 ≤ W.heap.size := by have := h.box.lt; omega
theorem Ew.grow {w W W' : World} {mc : Array Value} {q n c g m d : Nat} {out X : List Int} (h : Ew w W mc q n c out) (hX : ∀ z ∈ X, 0 ≤ z ∧ z ≤ 255) (hm : X.length = m) (hs : n + m ≤ 40000)
    (ho : W'.ownsRow (w.heap.size + 1) 5 1 (.slice (some ⟨g, 0, none⟩) (n + m) d) (n + m) (out.map (Value.int .u8) ++ X.map (Value.int .u8))) (hg : W.grownBy W' (Value.slice (some ⟨q, 0, none⟩) n c).ownBlock) : Ew w W' mc g (n + m) d (out ++ X) := by
  have hl := h.len
  have hq : ∀ k, (Value.slice (some ⟨q, 0, none⟩) n c).ownBlock = some k → w.heap.size + 1 ≤ k := fun k hk => (h.o.lt k hk).1
  refine ⟨grown_blk hg h.box (fun e => by have := hq _ e.symm; omega), ob_join h.o.2 hX (by rw [hl, hm]; exact ho), h.below.grown hg (by have := h.sz; omega) (fun k hk => by have := hq k hk; omega), ?_⟩
  rw [List.length_append, hl, hm]
  exact hs
theorem Ew.app {o : Oper} {a : Act} {w W : World} {mc : Array Value} {q n c : Nat} {out X : List Int} {K : Act → World → Prop} {Q : Exit → Act → World → Prop} (hE : Ew w W mc q n c out) (s x : Operand)
    (ho : o.op = .call { callee := .builtin .append, args := #[s, x], argTypes := #[22, 22] }) (hs : a.eval s = .slice (some ⟨q, 0, none⟩) n c) (ad : Addr) (m cp : Nat) (hx : a.eval x = .slice (some ad) m cp) (hX : X.length = m) (hXr : ∀ z ∈ X, 0 ≤ z ∧ z ≤ 255) (hnews : ∀ j u, (X.map (Value.int .u8))[j]? = some u → W.cell? (ad.add j) = some u) (hn : 0 < n) (hm : n + m ≤ 40000)
    (h : ∀ g d w', Ew w w' mc g (n + m) d (out ++ X) → K (a.put o.dst (.slice (some ⟨g, 0, none⟩) (n + m) d)) w') : o.wp Try.prog a W K Q := by
  obtain ⟨i0, hi, hz0, hz1, hz2⟩ := info_parts info8
  have o1 := hE.o.1
  rw [hE.len] at o1
  refine wp_append_own W s x 22 ho (w.heap.size + 1) 5 i0 (.int .u8 0) 1 1 Try.underlying22 hi hz0 hz1 hz2 rfl (by decide) (.slice (some ⟨q, 0, none⟩) n c) n (out.map (Value.int .u8)) hs o1 ad m cp (X.map (Value.int .u8)) hx (by rw [List.length_map, hX, Nat.mul_one]) hnews (ones8 _) (by unfold maxLen; omega) (by omega) (by have := hE.sz; omega) ?_
  intro v' w' hown hg _
  obtain ⟨g, d, rfl, _⟩ := World.ownsRow.form hown (by omega)
  exact h g d w' (hE.grow hXr hX hm hown hg)
theorem ob_kind {W : World} {base q n c : Nat} {out : List Int} {cs : Array Value} {t : TypeId} (h : OB W base (.slice (some ⟨q, 0, none⟩) n c) out) (hb : Blk W q cs t) : t = 5 := by
  obtain ⟨hl, h0 | ⟨g, cap, cur, hv, hg, hh, _⟩⟩ := h.1
  · simp at h0
  · simp at hv
    obtain ⟨rfl, _, _⟩ := hv
    unfold Blk at hb
    rw [hh] at hb
    simp at hb
    exact hb.2.symm
theorem Blk.mod {w : World} {g : Nat} {v0 v1 v2 v3 v4 v5 v6 v7 : Value} {t : TypeId} (h : Blk w g #[v0, v1, v2, v3, v4, v5, v6, v7] t) : w.cell? ⟨g, 0, none⟩ = some v0 ∧ w.cell? ⟨g, 1, none⟩ = some v1 ∧ w.cell? ⟨g, 2, none⟩ = some v2 ∧ w.cell? ⟨g, 3, none⟩ = some v3 ∧ w.cell? ⟨g, 4, none⟩ = some v4 ∧ w.cell? ⟨g, 5, none⟩ = some v5 ∧ w.cell? ⟨g, 6, none⟩ = some v6 ∧ w.cell? ⟨g, 7, none⟩ = some v7 :=
  ⟨h.cell 0, h.cell 1, h.cell 2, h.cell 3, h.cell 4, h.cell 5, h.cell 6, h.cell 7⟩
def EmPost (w : World) (zs : List Int) (e : Ending) (w' : World) : Prop := ∃ a n c, e = .returned (.slice a n c) ∧ OB w' w.heap.size (.slice a n c) zs ∧ Below w.heap.size w w' ∧ zs.length ≤ 40000
end Go.Proofs.Ytngdgogjlpjjpac
