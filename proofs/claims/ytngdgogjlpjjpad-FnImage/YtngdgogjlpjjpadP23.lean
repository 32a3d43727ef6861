import Derived.Test.YtngdgogjlpjjpadP06
import Derived.Test.YtngdgogjlpjjpadP11
import Derived.Test.YtngdgogjlpjjpadP12
import Derived.Test.YtngdgogjlpjjpadP13
import Derived.Test.YtngdgogjlpjjpadP16
import Derived.Test.YtngdgogjlpjjpadP22
namespace Go.Proofs.Ytngdgogjlpjjpad
open Go.RowKit
set_option linter.unusedVariables false
set_option linter.unusedSimpArgs false
set_option maxRecDepth 100000
set_option maxHeartbeats 4000000 in
theorem iModuleOk_any (nm : ByteArray) (ta : Option Addr) (tn tc : Nat) (tz : List Int) (ba : Option Addr) (bn bc : Nat) (bl : List Bk) (da : Option Addr) (dn dc : Nat) (dz : List Int) (bss : Int) (ra : Option Addr) (rn rc : Nat) (rz : List Int) (ia : Option Addr) (im ic : Nat) (ss : List ByteArray) (ea : Option Addr) (en ec : Nat) (es : List Ex) (w : World)
    (h : MD w nm ta tn tc tz ba bn bc bl da dn dc dz bss ra rn rc rz ia im ic ss ea en ec es) :
    Calls Try.prog 9 #[.agg #[.string nm, .slice ta tn tc, .slice ba bn bc, .slice da dn dc, .int .i64 bss, .slice ra rn rc, .slice ia im ic, .slice ea en ec]] w fun e w' => e = .returned (.int .i64 (mdo nm tn tz bn bl dn bss rn rz im ss en es)) ∧ Below w.heap.size w w' := by
  obtain ⟨W, hW⟩ : ∃ W, W = w.alloc (.cells #[.string nm, .slice ta tn tc, .slice ba bn bc, .slice da dn dc, .int .i64 bss, .slice ra rn rc, .slice ia im ic, .slice ea en ec] 29) := ⟨_, rfl⟩
  have hB0 : Below w.heap.size w W := by rw [hW]; exact (Below.refl _ _).alloc (Nat.le_refl _) _
  have kb : Blk W w.heap.size #[.string nm, .slice ta tn tc, .slice ba bn bc, .slice da dn dc, .int .i64 bss, .slice ra rn rc, .slice ia im ic, .slice ea en ec] 29 := by rw [hW]; exact Blk.new _ _ _
  obtain ⟨r, hr⟩ : ∃ r, r = mdo nm tn tz bn bl dn bss rn rz im ss en es := ⟨_, rfl⟩
  rw [← hr]
  unfold mdo at hr
  have HRR := hide hr
  clear hr
  have H0 := h.below hB0
  have hmd := h.d.2.1
  have htn := h.t.2.1
  have HN := hide (fun w => isName_any nm w h.n)
  have HCd := hide (fun w ht hb => codeOk_any nm ta tn tc tz ba bn bc bl (.slice da dn dc) (.slice ra rn rc) (.slice ia im ic) (.slice ea en ec) bss w ht hb)
  have HRl := hide (fun w h => relocsOk_any nm (.slice ta tn tc) (.slice ba bn bc) da dn dc bss ra rn rc rz (.slice ia im ic) (.slice ea en ec) w hmd h)
  have HIm := hide (fun w h => importsOk_any nm (.slice ta tn tc) (.slice ba bn bc) (.slice da dn dc) (.slice ra rn rc) (.slice ea en ec) bss ia im ic ss w h)
  have HEx := hide (fun w hb h => exportsOk_any nm ta tn tc ba bn bc bl (.slice da dn dc) (.slice ra rn rc) (.slice ia im ic) bss ea en ec es w htn hb h)
  have HU := hide (fun w => isUpTo_any bss 512 w)
  unfold maxLen at hmd
  obtain ⟨s0, s1⟩ := h.s
  clear h htn
  have HW := hide hW
  clear hW
  generalize nmo nm = a1 at *
  generalize cdo tn tz bn bl = a2 at *
  generalize rlo rn rz dn = a4 at *
  generalize imo im ss = a5 at *
  generalize exo tn bn bl en es = a6 at *
  obtain ⟨q0, q1, q2, q3, q4, q5, q6, q7⟩ := kb.eight
  go_enter Try.func9, Try.ntmps9
  go_wp2_with (first | (rw [← HW.out]) | (go_at_call 32; refine (HN.out _).mono ?_; rintro e w1 ⟨rfl, rfl⟩; cases a1))
  · have e := hide (show r = 1 from by rw [HRR.out]; simp)
    go_ret
    exact ⟨ret_int e.out.symm, hB0⟩
  · refine (HCd.out _ H0.t H0.b).mono ?_
    rintro e w2 ⟨rfl, hb2⟩
    have kb2 := kb.below hb2
    have H2 := H0.below hb2
    have hB2 := hB0.trans (hb2.mono hB0.size)
    clear hb2 kb H0 hB0 q0 q1 q2 q3 q4 q5 q6 q7
    obtain ⟨q0, q1, q2, q3, q4, q5, q6, q7⟩ := kb2.eight
    cases a2
    · have e := hide (show r = 2 from by rw [HRR.out]; simp)
      go_wp2
      go_ret
      exact ⟨ret_int e.out.symm, hB2⟩
    · by_cases c1 : 512 < dn
      · have e := hide (show r = 3 from by rw [HRR.out]; simp [c1])
        have c1' : (512 : Int) < (dn : Int) := by omega
        go_wp2
        go_ret
        exact ⟨ret_int e.out.symm, hB2⟩
      · have c1' : ¬ (512 : Int) < (dn : Int) := by omega
        by_cases c2 : 0 ≤ bss ∧ bss ≤ 512
        · have HR2 := hide (show r = if a4 = false then 4 else if a5 = false then 5 else if a6 = false then 6 else 0 from by
            rw [HRR.out]
            simp only [Bool.true_eq_false, if_false, show ¬ (512 < dn ∨ bss < 0 ∨ 512 < bss) by omega])
          clear HRR
          rw [decide_eq_true c2] at HU
          go_wp2_with (go_at_call 34; refine (HU.out _).mono ?_; rintro e w1 ⟨rfl, rfl⟩)
          refine (HRl.out _ H2.r).mono ?_
          rintro e w3 ⟨rfl, hb3⟩
          have kb3 := kb2.below hb3
          have H3 := H2.below hb3
          have hB3 := hB2.trans (hb3.mono hB2.size)
          clear hb3 kb2 H2 hB2 q0 q1 q2 q3 q4 q5 q6 q7
          obtain ⟨q0, q1, q2, q3, q4, q5, q6, q7⟩ := kb3.eight
          cases a4
          · have e := hide (show r = 4 from by rw [HR2.out]; simp)
            go_wp2
            go_ret
            exact ⟨ret_int e.out.symm, hB3⟩
          · go_wp2_with fail
            refine (HIm.out _ H3.i).mono ?_
            rintro e w4 ⟨rfl, hb4⟩
            have kb4 := kb3.below hb4
            have H4 := H3.below hb4
            have hB4 := hB3.trans (hb4.mono hB3.size)
            clear hb4 kb3 H3 hB3 q0 q1 q2 q3 q4 q5 q6 q7
            obtain ⟨q0, q1, q2, q3, q4, q5, q6, q7⟩ := kb4.eight
            cases a5
            · have e := hide (show r = 5 from by rw [HR2.out]; simp)
              go_wp2
              go_ret
              exact ⟨ret_int e.out.symm, hB4⟩
            · go_wp2_with fail
              refine (HEx.out _ H4.b H4.e).mono ?_
              rintro e w5 ⟨rfl, hb5⟩
              have hB5 := hB4.trans (hb5.mono hB4.size)
              clear hb5 H4 hB4 kb4
              cases a6
              · have e := hide (show r = 6 from by rw [HR2.out]; simp)
                go_wp2
                go_ret
                exact ⟨ret_int e.out.symm, hB5⟩
              · have e := hide (show r = 0 from by rw [HR2.out]; simp)
                go_wp2
                go_ret
                exact ⟨ret_int e.out.symm, hB5⟩
        · rw [decide_eq_false c2] at HU
          have e := hide (show r = 3 from by rw [HRR.out]; simp only [Bool.true_eq_false, if_false, show (512 < dn ∨ bss < 0 ∨ 512 < bss) by omega, if_true])
          go_wp2_with (go_at_call 34; refine (HU.out _).mono ?_; rintro e w1 ⟨rfl, rfl⟩)
          go_ret
          exact ⟨ret_int e.out.symm, hB2⟩
def strB (s : ByteArray) : List Int := s.data.toList.map fun b => (b.toNat : Int)
theorem strB_len (s : ByteArray) : (strB s).length = s.size := by simp [strB]
theorem strB_range (s : ByteArray) : ∀ z ∈ strB s, 0 ≤ z ∧ z ≤ 255 := by
  intro z hz
  simp only [strB, List.mem_map] at hz
  obtain ⟨b, _, rfl⟩ := hz
  have := b.toNat_lt
  omega
theorem strB_news (w : World) (s : ByteArray) (cap : Nat) (fr : Nat × Nat) (t : TypeId) (g : Nat) (hg : g = w.heap.size) : ∀ j u, ((strB s).map (Value.int .u8))[j]? = some u → (w.alloc (.cells (bytesRow s cap) t fr)).cell? ((⟨g, 0, none⟩ : Addr).add j) = some u := by
  intro j u hj
  subst hg
  have e : (Addr.add ⟨w.heap.size, 0, none⟩ j) = ⟨w.heap.size, j, none⟩ := by rw [addr_add, Nat.zero_add]
  rw [e, World.cell?_alloc_mark]
  have hl : j < s.size := by
    by_cases h : j < s.size
    · exact h
    · rw [List.getElem?_eq_none (by simp [strB]; omega)] at hj; simp at hj
  rw [← hj]
  unfold bytesRow
  rw [Array.getElem?_append_left (by simpa using hl)]
  simp [strB]
  rfl
theorem ones8 (zs : List Int) : ∀ u ∈ zs.map (Value.int .u8), u.oneCell' = true := by
  intro u hu
  simp only [List.mem_map] at hu
  obtain ⟨z, _, rfl⟩ := hu
  rfl
theorem ob_join {w : World} {base : Nat} {v : Value} {xs ys : List Int} (hx : ∀ z ∈ xs, 0 ≤ z ∧ z ≤ 255) (hy : ∀ z ∈ ys, 0 ≤ z ∧ z ≤ 255) (h : w.ownsRow base 5 1 v (xs.length + ys.length) (xs.map (Value.int .u8) ++ ys.map (Value.int .u8))) : OB w base v (xs ++ ys) :=
  ⟨by simpa using h, fun z hz => by
    rcases List.mem_append.1 hz with h | h
    · exact hx z h
    · exact hy z h⟩
theorem ob_form {w : World} {base : Nat} {v : Value} {zs : List Int} (h : OB w base v zs) (hn : zs.length ≠ 0) : ∃ g d, v = .slice (some ⟨g, 0, none⟩) zs.length d := by
  obtain ⟨hl, ⟨h0', h1⟩ | ⟨g, cap', cur, hv, _⟩⟩ := h.1
  · exact absurd h1 hn
  · exact ⟨g, cap', hv⟩
def encT (s : ByteArray) : List Int := encN s.size 1 ++ strB s
theorem encT_len (s : ByteArray) : (encT s).length = 1 + s.size := by simp [encT, encN_len, strB_len]
def EnPost (w : World) (zs : List Int) (e : Ending) (w' : World) : Prop := ∃ g d, e = .returned (.slice (some ⟨g, 0, none⟩) zs.length d) ∧ OB w' w.heap.size (.slice (some ⟨g, 0, none⟩) zs.length d) zs ∧ Below w.heap.size w w'
set_option maxHeartbeats 1000000 in
theorem l4Text_any (s : ByteArray) (w : World) (hs : s.size ≤ 1048576) : Calls Try.prog 43 #[.string s] w (EnPost w (encT s)) := by
  obtain ⟨i0, hi, hz0, hz1, hz2⟩ := info_parts info8
  have hcv := fun (w : World) => run_bytes_of_string (P := Try.prog) w 9 22 5 s Try.underlying9 Try.underlying22 Try.underlying5
  have HL := hide (And.intro (encN_len s.size 1) (strB_len s))
  have HN := hide (fun w => l4Num_any s.size 1 w (Or.inl rfl) (by omega) (by omega))
  go_enter Try.func43, Try.ntmps43
  go_wp2_with fail
  refine (HN.out _).mono ?_
  rintro e w1 ⟨rfl, ho, hb⟩
  have HO := hide (fun (O : Obj) => (ho.below ((Below.refl w1.heap.size w1).drew.alloc (Nat.le_refl _) O)).1)
  have HB := hide (fun (O : Obj) => hb.drew.alloc (show w.heap.size ≤ w1.drew.heap.size from hb.size) O)
  have hbs := hb.size
  clear ho hb
  go_wp2_with (at_builtin; refine wpList_append_own _ rfl _ _ 22 rfl w.heap.size 5 i0 (.int .u8 0) 1 1 Try.underlying22 hi hz0 hz1 hz2 rfl (by decide) (.slice (some ⟨w.heap.size, 0, none⟩) 1 1) 1 ((encN s.size 1).map (Value.int .u8)) rfl (HO.out _) ⟨w1.heap.size, 0, none⟩ s.size _ ((strB s).map (Value.int .u8)) rfl (by rw [List.length_map, strB_len, Nat.mul_one]) (strB_news _ s _ _ _ _ rfl) (ones8 _) (by unfold maxLen; omega) (by omega) (by simp; omega) ?_; intro v' w3 hown3 hgr3 _)
  have h3 : OB w3 w.heap.size v' (encT s) := ob_join (encN_range _ _) (strB_range _) (by rw [HL.out.1, HL.out.2]; exact hown3)
  obtain ⟨g, d, rfl⟩ := ob_form h3 (by rw [encT_len]; omega)
  have hb3 := below_grown' (HB.out _) hgr3 (by simp; omega) (Nat.le_refl _)
  go_ret
  exact ⟨g, d, rfl, h3, hb3⟩
def encW (s : Nat) (zs : List Int) (k : Nat) : List Int := (zs.take k).flatMap fun z => encN z s
theorem encW_succ (s : Nat) (zs : List Int) (k : Nat) (h : k < zs.length) : encW s zs (k + 1) = encW s zs k ++ encN (zs.getD k 0) s := by
  unfold encW
  rw [List.take_succ_eq_append_getElem h, List.flatMap_append]
  simp [List.getD_eq_getElem?_getD, h]
theorem encW_len (s : Nat) (zs : List Int) : ∀ k, k ≤ zs.length → (encW s zs k).length = k * s
  | 0, _ => by simp [encW]
  | k + 1, h => by rw [encW_succ s zs k (by omega), List.length_append, encW_len s zs k (by omega), encN_len, Nat.succ_mul]
theorem encW_range (s : Nat) (zs : List Int) (k : Nat) : ∀ z ∈ encW s zs k, 0 ≤ z ∧ z ≤ 255 := by
  intro z hz
  simp only [encW, List.mem_flatMap] at hz
  obtain ⟨x, _, hz⟩ := hz
  exact encN_range _ _ z hz
theorem app_range {xs ys : List Int} (hx : ∀ z ∈ xs, 0 ≤ z ∧ z ≤ 255) (hy : ∀ z ∈ ys, 0 ≤ z ∧ z ≤ 255) : ∀ z ∈ xs ++ ys, 0 ≤ z ∧ z ≤ 255 := fun z hz => by
  rcases List.mem_append.1 hz with h | h
  · exact hx z h
  · exact hy z h
def encL (zs : List Int) : List Int := encN zs.length 2 ++ encW 4 zs zs.length
theorem encL_len (zs : List Int) : (encL zs).length = 2 + zs.length * 4 := by simp [encL, encN_len, encW_len]
theorem ob_cells {w : World} {base g n cap : Nat} {zs : List Int} (h : OB w base (.slice (some ⟨g, 0, none⟩) n cap) zs) : ∀ j u, (zs.map (Value.int .u8))[j]? = some u → w.cell? ((⟨g, 0, none⟩ : Addr).add j) = some u := bs_news h.bs
set_option maxHeartbeats 2000000 in
theorem l4List_any (a : Option Addr) (n cap : Nat) (zs : List Int) (w : World) (h : IS w a n cap zs) (hn : n ≤ 1000) (hr : ∀ z ∈ zs, 0 ≤ z ∧ z ≤ 4294967295) : Calls Try.prog 44 #[.slice a n cap] w (EnPost w (encL zs)) := by
  obtain ⟨i0, hi, hz0, hz1, hz2⟩ := info_parts info8
  have hl := h.1
  have HN := hide (fun w => l4Num_any n 2 w (Or.inr (Or.inl rfl)) (by omega) (by omega))
  have HE := hide (show encL zs = encN n 2 ++ encW 4 zs n by unfold encL; rw [hl])
  go_enter Try.func44, Try.ntmps44
  go_wp2_with fail
  refine (HN.out _).mono ?_
  rintro e w1 ⟨rfl, ho, hb⟩
  have H1 : OB w1 w.heap.size (.slice (some ⟨w.heap.size, 0, none⟩) 2 2) (encN n 2 ++ encW 4 zs 0) := by
    have e : encN n 2 ++ encW 4 zs 0 = encN n 2 := by simp [encW]
    rw [e]; exact ho
  clear ho HN
  go_wp2
  go_loopw [3, 4] (fun x i wr => ∃ (k : Nat) (v : Value), k ≤ n ∧ i = .int .i64 k ∧ v = x ∧ OB wr w.heap.size v (encN n 2 ++ encW 4 zs k) ∧ Below w.heap.size w wr) (fun _ i _ => n - (intOf i).toNat)
  case atStart => exact ⟨0, _, Nat.zero_le _, rfl, rfl, H1, hb⟩
  case round =>
    obtain ⟨k, v, hk, rfl, rfl, hO, hB⟩ := hrel
    clear H1 hb
    by_cases hlt : k < n
    · have hlt' : (k : Int) < (n : Int) := by omega
      obtain ⟨b, off, rfl⟩ := h.addr (by omega)
      have hc := (h.below hB).at k hlt
      have hz : 0 ≤ zs.getD k 0 ∧ zs.getD k 0 ≤ 4294967295 := hr _ (by simp [List.getD_eq_getElem?_getD, show k < zs.length by omega])
      have HS := hide (show encN n 2 ++ encW 4 zs (k + 1) = (encN n 2 ++ encW 4 zs k) ++ encN (zs.getD k 0) 4 by rw [encW_succ 4 zs k (by omega), List.append_assoc])
      have HR := hide (show ∀ z ∈ encN n 2 ++ encW 4 zs k, 0 ≤ z ∧ z ≤ 255 from app_range (encN_range _ _) (encW_range _ _ _))
      have HLN : Hid ((encN n 2 ++ encW 4 zs k).length = 2 + k * 4) := by show _ = _; rw [List.length_append, encN_len, encW_len 4 zs k (by omega)]
      generalize encN n 2 ++ encW 4 zs k = out at *
      generalize zs.getD k 0 = z at *
      have HN := hide (fun w => l4Num_any z 4 w (Or.inr (Or.inr rfl)) hz.1 hz.2)
      go_wp2_with fail
      refine (HN.out _).mono ?_
      rintro e w2 ⟨rfl, ho2, hb2⟩
      have HO := hide ((hO.below hb2).1)
      have HC := hide (ob_cells ho2)
      have hB2 := hB.trans (hb2.mono hB.size)
      have hlt2 := hO.lt
      have hsz := hB.size
      have hol := HLN.out
      clear hO ho2 hb2 hc HN
      go_wp2_with (at_builtin; refine wpList_append_own _ rfl _ _ 22 rfl w.heap.size 5 i0 (.int .u8 0) 1 1 Try.underlying22 hi hz0 hz1 hz2 rfl (by decide) v out.length (out.map (Value.int .u8)) rfl HO.out ⟨wr.heap.size, 0, none⟩ 4 4 ((encN z 4).map (Value.int .u8)) rfl (by rw [List.length_map, encN_len]) HC.out (ones8 _) (by unfold maxLen; omega) (by omega) (by have := hB2.size; omega) ?_; intro v' w3 hown3 hgr3 _)
      have h3 : OB w3 w.heap.size v' (out ++ encN z 4) := ob_join HR.out (encN_range _ _) (by rw [encN_len]; exact hown3)
      rw [← HS.out] at h3
      have hb3 : Below w.heap.size w w3 := hB2.grown hgr3 (by have := hB2.size; omega) (fun j hj => (hlt2 j hj).1)
      go_roundw
      case rel => exact ⟨k + 1, v', by omega, by go_num, rfl, h3, hb3⟩
      case measure => simp [intOf]; omega
    · obtain rfl : k = n := by omega
      have h3 := hO
      rw [← HE.out] at h3
      obtain ⟨g, d, rfl⟩ := ob_form h3 (by rw [encL_len]; omega)
      have HX := hide h3
      clear h3 hO
      go_wp2
      go_ret
      exact ⟨g, d, rfl, HX.out, hB⟩
def encBs (bl : List Bk) (k : Nat) : List Int := (bl.take k).flatMap fun b => encL b.2.2.2
def encTs (ss : List ByteArray) (k : Nat) : List Int := (ss.take k).flatMap encT
def encX (x : Ex) : List Int := encT x.1 ++ (encN (x.2.1 + 1) 1 ++ encN x.2.2 2)
def encXs (es : List Ex) (k : Nat) : List Int := (es.take k).flatMap encX
theorem flat_succ {α : Type} (f : α → List Int) (l : List α) (z : α) (k : Nat) (h : k < l.length) : (l.take (k + 1)).flatMap f = (l.take k).flatMap f ++ f (l.getD k z) := by
  rw [List.take_succ_eq_append_getElem h, List.flatMap_append]
  simp [List.getD_eq_getElem?_getD, h]
def enc0 (nm : ByteArray) : List Int := [88, 77] ++ encT nm
def enc1 (nm : ByteArray) (tz : List Int) (bn : Nat) : List Int := enc0 nm ++ encL tz ++ encN bn 1
def enc2 (nm : ByteArray) (tz : List Int) (bn : Nat) (bl : List Bk) (dn : Nat) (dz : List Int) (bss : Int) (rn : Nat) : List Int := enc1 nm tz bn ++ encBs bl bn ++ encN dn 2 ++ dz ++ encN bss 2 ++ encN rn 1
def enc3 (nm : ByteArray) (tz : List Int) (bn : Nat) (bl : List Bk) (dn : Nat) (dz : List Int) (bss : Int) (rn : Nat) (rz : List Int) (im : Nat) : List Int := enc2 nm tz bn bl dn dz bss rn ++ encW 2 rz rn ++ encN im 1
def enc4 (nm : ByteArray) (tz : List Int) (bn : Nat) (bl : List Bk) (dn : Nat) (dz : List Int) (bss : Int) (rn : Nat) (rz : List Int) (im : Nat) (ss : List ByteArray) (en : Nat) : List Int := enc3 nm tz bn bl dn dz bss rn rz im ++ encTs ss im ++ encN en 1
def encM (nm : ByteArray) (tz : List Int) (bn : Nat) (bl : List Bk) (dn : Nat) (dz : List Int) (bss : Int) (rn : Nat) (rz : List Int) (im : Nat) (ss : List ByteArray) (en : Nat) (es : List Ex) : List Int := enc4 nm tz bn bl dn dz bss rn rz im ss en ++ encXs es en
structure Ew (w W : World) (mc : Array Value) (q n c : Nat) (out : List Int) : Prop where
  box : Blk W w.heap.size mc 29
  o : OB W (w.heap.size + 1) (.slice (some ⟨q, 0, none⟩) n c) out
  below : Below w.heap.size w W
  small : out.length ≤ 40000
theorem Ew.step {w W W' : World} {mc : Array Value} {q n c : Nat} {out : List Int} (h : Ew w W mc q n c out) (b : Below W.heap.size W W') : Ew w W' mc q n c out :=
  ⟨h.box.below b, h.o.below b, h.below.trans (b.mono h.below.size), h.small⟩
theorem Ew.len {w W : World} {mc : Array Value} {q n c : Nat} {out : List Int} (h : Ew w W mc q n c out) : out.length = n := h.o.bs.1
theorem Ew.sz {w W : World} {mc : Array Value} {q n c : Nat} {out : List Int} (h : Ew w W mc q n c out) : w.heap.size + 1 ≤ W.heap.size := by have := h.box.lt; omega
theorem Ew.grow {w W W' : World} {mc : Array Value} {q n c g m d : Nat} {out X : List Int} (h : Ew w W mc q n c out) (hX : ∀ z ∈ X, 0 ≤ z ∧ z ≤ 255) (hm : X.length = m) (hs : n + m ≤ 40000)
    (ho : W'.ownsRow (w.heap.size + 1) 5 1 (.slice (some ⟨g, 0, none⟩) (n + m) d) (n + m) (out.map (Value.int .u8) ++ X.map (Value.int .u8))) (hg : W.grownBy W' (Value.slice (some ⟨q, 0, none⟩) n c).ownBlock) : Ew w W' mc g (n + m) d (out ++ X) := by
  have hl := h.len
  have hq : ∀ k, (Value.slice (some ⟨q, 0, none⟩) n c).ownBlock = some k → w.heap.size + 1 ≤ k := fun k hk => (h.o.lt k hk).1
  refine ⟨grown_blk hg h.box (fun e => by have := hq _ e.symm; omega), ob_join h.o.2 hX (by rw [hl, hm]; exact ho), h.below.grown hg (by have := h.sz; omega) (fun k hk => by have := hq k hk; omega), ?_⟩
  rw [List.length_append, hl, hm]
  exact hs
theorem Ew.app {o : Oper} {a : Act} {w W : World} {mc : Array Value} {q n c : Nat} {out X : List Int} {K : Act → World → Prop} {Q : Exit → Act → World → Prop} (hE : Ew w W mc q n c out) (s x : Operand)
    (ho : o.op = .call { callee := .builtin .append, args := #[s, x], argTypes := #[22, 22] }) (hs : a.eval s = .slice (some ⟨q, 0, none⟩) n c) (ad : Addr) (m cp : Nat) (hx : a.eval x = .slice (some ad) m cp) (hX : X.length = m) (hXr : ∀ z ∈ X, 0 ≤ z ∧ z ≤ 255) (hnews : ∀ j u, (X.map (Value.int .u8))[j]? = some u → W.cell? (ad.add j) = some u) (hn : 0 < n) (hm : n + m ≤ 40000)
    (h : ∀ g d w', Ew w w' mc g (n + m) d (out ++ X) → K (a.put o.dst (.slice (some ⟨g, 0, none⟩) (n + m) d)) w') : o.wp Try.prog a W K Q := by
  obtain ⟨i0, hi, hz0, hz1, hz2⟩ := info_parts info8
  have o1 := hE.o.1
  rw [hE.len] at o1
  refine wp_append_own W s x 22 ho (w.heap.size + 1) 5 i0 (.int .u8 0) 1 1 Try.underlying22 hi hz0 hz1 hz2 rfl (by decide) (.slice (some ⟨q, 0, none⟩) n c) n (out.map (Value.int .u8)) hs o1 ad m cp (X.map (Value.int .u8)) hx (by rw [List.length_map, hX, Nat.mul_one]) hnews (ones8 _) (by unfold maxLen; omega) (by omega) (by have := hE.sz; omega) ?_
  intro v' w' hown hg _
  obtain ⟨g, d, rfl, _⟩ := World.ownsRow.form hown (by omega)
  exact h g d w' (hE.grow hXr hX hm hown hg)
theorem step_ew {ops : Array Oper} {o : Oper} {a : Act} {w W : World} {mc : Array Value} {q n c : Nat} {out X : List Int} {K : Act → World → Prop} {Q : Exit → Act → World → Prop} {E : Prop} (hE : Ew w W mc q n c out) (hgd : o.guard = none) (s x : Operand)
    (ho : o.op = .call { callee := .builtin .append, args := #[s, x], argTypes := #[22, 22] }) (hs : a.eval s = .slice (some ⟨q, 0, none⟩) n c) (ad : Addr) (m cp : Nat) (hx : a.eval x = .slice (some ad) m cp) (hX : X.length = m) (hXr : ∀ z ∈ X, 0 ≤ z ∧ z ≤ 255) (hnews : ∀ j u, (X.map (Value.int .u8))[j]? = some u → W.cell? (ad.add j) = some u) (hn : 0 < n) (hm : n + m ≤ 40000)
    (h : ∀ g d w', Ew w w' mc g (n + m) d (out ++ X) → K (a.put o.dst (.slice (some ⟨g, 0, none⟩) (n + m) d)) w') : if Region.wanted o (yielded ops a.tmps) = true then Oper.wp Try.prog o a W K Q else E := by
  have hw : Region.wanted o (yielded ops a.tmps) = true := by simp [Region.wanted, hgd]
  rw [if_pos hw]
  exact hE.app s x ho hs ad m cp hx hX hXr hnews hn hm h
theorem list_ew {ops : Array Oper} {rest : List Oper} {o : Oper} {a : Act} {w W : World} {mc : Array Value} {q n c : Nat} {out X : List Int} {Q : Exit → Act → World → Prop} (hE : Ew w W mc q n c out) (hgd : o.guard = none) (s x : Operand)
    (ho : o.op = .call { callee := .builtin .append, args := #[s, x], argTypes := #[22, 22] }) (hs : a.eval s = .slice (some ⟨q, 0, none⟩) n c) (ad : Addr) (m cp : Nat) (hx : a.eval x = .slice (some ad) m cp) (hX : X.length = m) (hXr : ∀ z ∈ X, 0 ≤ z ∧ z ≤ 255) (hnews : ∀ j u, (X.map (Value.int .u8))[j]? = some u → W.cell? (ad.add j) = some u) (hn : 0 < n) (hm : n + m ≤ 40000)
    (h : ∀ g d w', Ew w w' mc g (n + m) d (out ++ X) → wpList Try.prog ops Q rest (a.put o.dst (.slice (some ⟨g, 0, none⟩) (n + m) d)) w') : wpList Try.prog ops Q (o :: rest) a W :=
  wpList_plain hgd fun _ hK => hE.app s x ho hs ad m cp hx hX hXr hnews hn hm fun g d w' e => hK _ _ (h g d w' e)
theorem ob_kind {W : World} {base q n c : Nat} {out : List Int} {cs : Array Value} {t : TypeId} (h : OB W base (.slice (some ⟨q, 0, none⟩) n c) out) (hb : Blk W q cs t) : t = 5 := by
  obtain ⟨hl, h0 | ⟨g, cap, cur, hv, hg, hh, _⟩⟩ := h.1
  · simp at h0
  · simp at hv
    obtain ⟨rfl, _, _⟩ := hv
    unfold Blk at hb
    rw [hh] at hb
    simp at hb
    exact hb.2.symm
theorem step_ewk {ops : Array Oper} {o : Oper} {a : Act} {w W : World} {mc : Array Value} {q n c : Nat} {out X : List Int} {K : Act → World → Prop} {Q : Exit → Act → World → Prop} {E : Prop} (hE : Ew w W mc q n c out) (hgd : o.guard = none) (s x : Operand)
    (ho : o.op = .call { callee := .builtin .append, args := #[s, x], argTypes := #[22, 22] }) (hs : a.eval s = .slice (some ⟨q, 0, none⟩) n c) (ad : Addr) (m cp : Nat) (hx : a.eval x = .slice (some ad) m cp) (hX : X.length = m) (hXr : ∀ z ∈ X, 0 ≤ z ∧ z ≤ 255) (hnews : ∀ j u, (X.map (Value.int .u8))[j]? = some u → W.cell? (ad.add j) = some u) (hn : 0 < n) (hm : n + m ≤ 40000)
    (h : ∀ g d w', Ew w w' mc g (n + m) d (out ++ X) → (∀ k cs t, t ≠ 5 → Blk W k cs t → Blk w' k cs t) → K (a.put o.dst (.slice (some ⟨g, 0, none⟩) (n + m) d)) w') : if Region.wanted o (yielded ops a.tmps) = true then Oper.wp Try.prog o a W K Q else E := by
  have hw : Region.wanted o (yielded ops a.tmps) = true := by simp [Region.wanted, hgd]
  rw [if_pos hw]
  obtain ⟨i0, hi, hz0, hz1, hz2⟩ := info_parts info8
  have o1 := hE.o.1
  rw [hE.len] at o1
  refine wp_append_own W s x 22 ho (w.heap.size + 1) 5 i0 (.int .u8 0) 1 1 Try.underlying22 hi hz0 hz1 hz2 rfl (by decide) (.slice (some ⟨q, 0, none⟩) n c) n (out.map (Value.int .u8)) hs o1 ad m cp (X.map (Value.int .u8)) hx (by rw [List.length_map, hX, Nat.mul_one]) hnews (ones8 _) (by unfold maxLen; omega) (by omega) (by have := hE.sz; omega) ?_
  intro v' w' hown hg _
  obtain ⟨g, d, rfl, _⟩ := World.ownsRow.form hown (by omega)
  refine h g d w' (hE.grow hXr hX hm hown hg) (fun k cs t ht hb => grown_blk hg hb (fun e => ?_))
  have e' : some k = some q := e
  injection e' with e'
  subst e'
  exact ht (ob_kind hE.o hb)
theorem Blk.mod {w : World} {g : Nat} {v0 v1 v2 v3 v4 v5 v6 v7 : Value} {t : TypeId} (h : Blk w g #[v0, v1, v2, v3, v4, v5, v6, v7] t) : w.cell? ⟨g, 0, none⟩ = some v0 ∧ w.cell? ⟨g, 1, none⟩ = some v1 ∧ w.cell? ⟨g, 2, none⟩ = some v2 ∧ w.cell? ⟨g, 3, none⟩ = some v3 ∧ w.cell? ⟨g, 4, none⟩ = some v4 ∧ w.cell? ⟨g, 5, none⟩ = some v5 ∧ w.cell? ⟨g, 6, none⟩ = some v6 ∧ w.cell? ⟨g, 7, none⟩ = some v7 :=
  ⟨h.cell 0, h.cell 1, h.cell 2, h.cell 3, h.cell 4, h.cell 5, h.cell 6, h.cell 7⟩
theorem ob_two (w : World) (base : Nat) (hb : base ≤ w.heap.size) (x y : Int) (hx : 0 ≤ x ∧ x ≤ 255) (hy : 0 ≤ y ∧ y ≤ 255) : OB (w.alloc (.cells #[.int .u8 x, .int .u8 y] 5)) base (.slice (some ⟨w.heap.size, 0, none⟩) 2 2) [x, y] :=
  ⟨⟨rfl, .inr ⟨w.heap.size, 2, #[.int .u8 x, .int .u8 y], rfl, hb, heap_alloc_new w _, Nat.le_refl _, by unfold maxLen; omega, rfl, rfl⟩⟩, fun z hz => by
    simp at hz
    rcases hz with rfl | rfl
    · exact hx
    · exact hy⟩
def EmPost (w : World) (zs : List Int) (e : Ending) (w' : World) : Prop := ∃ a n c, e = .returned (.slice a n c) ∧ OB w' w.heap.size (.slice a n c) zs ∧ Below w.heap.size w w' ∧ zs.length ≤ 40000
def z8 : Array Value := #[.string ⟨#[]⟩, .slice none 0 0, .slice none 0 0, .slice none 0 0, .int .i64 0, .slice none 0 0, .slice none 0 0, .slice none 0 0]
theorem array8' {cs : Array Value} (h : cs.size = 8) : ∃ c0 c1 c2 c3 c4 c5 c6 c7, cs = #[c0, c1, c2, c3, c4, c5, c6, c7] := by
  obtain ⟨l⟩ := cs
  match l, h with
  | [a, b, c, d, e, f, g, i], _ => exact ⟨a, b, c, d, e, f, g, i, rfl⟩
def caught (W : World) (m k : Nat) (c : Int) : World := (st8 W m (.string ⟨#[]⟩) (.slice none 0 0) (.slice none 0 0) (.slice none 0 0) (.int .i64 0) (.slice none 0 0) (.slice none 0 0) (.slice none 0 0)).setCell ⟨k, 0, none⟩ (.int .i64 c)
theorem run_assert (c : Int) (t : TypeId) (W : World) : (Instr.typeAssert (.iface 59 (.int .i64 c)) t 59 false).run Try.prog W = .ok (.int .i64 c) W := by
  simp [Instr.typeAssert, run_underlying Try.underlying59]
set_option maxHeartbeats 1000000 in
theorem catch_idle (m k : Nat) (w : World) :
    CallsD Try.prog 27 #[.pointer (some ⟨m, 0, none⟩), .pointer (some ⟨k, 0, none⟩)] .returning w fun e u' w' => e = .returned (.tuple #[]) ∧ u' = .returning ∧ w' = w := by
  refine callsD_of_wpS Try.func27 rfl fun c₀ cs hu => ?_
  apply wpS_seq
  apply wpS_region
  simp [wpOpsS, go_sem, recoverD, hu, Try.ntmps27, Exit.thenS]
  apply wpS_seq
  apply wpS_region
  simp [wpOpsS, go_sem, recoverD, hu, Try.ntmps27, Exit.thenS]
  refine wpS_cond (t := false) (by simp [Act.eval, Array.replicate]) ?_
  simp only [Bool.false_eq_true, if_false]
  refine wpS_of_wp (wp_skip ?_)
  cases c₀
  simp_all [bodyPostS, results, Try.results27]
set_option maxHeartbeats 1000000 in
theorem catch_panic (m k : Nat) (c : Int) (older : List PanicEntry) (ms : Array Value) (x : Value) (w : World) (hm : Blk w m ms 29) (hs : ms.size = 8) (hk : Blk w k #[x] 3) :
    CallsD Try.prog 27 #[.pointer (some ⟨m, 0, none⟩), .pointer (some ⟨k, 0, none⟩)] (.panicking ({ v := .iface 59 (.int .i64 c), recovered := false } :: older)) w fun e u' w' =>
      e = .returned (.tuple #[]) ∧ u' = .panicking ({ v := .iface 59 (.int .i64 c), recovered := true } :: older) ∧ w' = (caught w m k c).drew := by
  refine callsD_of_wpS Try.func27 rfl fun c₀ cs hu => ?_
  apply wpS_seq
  apply wpS_region
  simp [wpOpsS, go_sem, recoverD, hu, Try.ntmps27, Exit.thenS]
  apply wpS_seq
  apply wpS_region
  simp [wpOpsS, go_sem, recoverD, hu, Try.ntmps27, Exit.thenS]
  refine wpS_cond (t := true) (by simp [Act.eval, Array.replicate]) ?_
  simp only [if_true]
  refine wpS_of_wp ?_
  have hmk : m ≠ k := fun e => by rw [e] at hm; exact absurd (blk_kind hm hk) (by decide)
  have hkm : k ≠ m := fun e => hmk e.symm
  obtain ⟨y0, y1, y2, y3, y4, y5, y6, y7, rfl⟩ := array8' hs
  obtain ⟨p0, p1, p2, p3, p4, p5, p6, p7⟩ := hm.eight'
  obtain ⟨f0, f1, f2, f3, f4, f5, f6, f7⟩ := hm.froz
  have r0 := hk.cell 0
  have r1 := hk.frozen 0
  simp at r0
  clear hm hk hs
  change Code.wp _ _ _ ⟨#[.pointer (some ⟨m, 0, none⟩), .pointer (some ⟨k, 0, none⟩), .iface 59 (.int .i64 c), .iface 59 (.int .i64 c), .iface 59 (.int .i64 c), .bool true, undef, undef, undef], []⟩ _
  have hta := fun (t : TypeId) (W : World) => run_assert c t W
  go_region
  cases c₀
  simp_all [bodyPostS, results, Try.results27, caught, st8]
end Go.Proofs.Ytngdgogjlpjjpad
