import Derived.Test.YtngdgogjlpjjpaeGreatJ05
import Derived.Maps.AppendAt
import Derived.Test.YtngdgogjlpjjpaeGreatJ02
namespace Go.Proofs.YtngdgogjlpjjpaeGreat
open Go.RowKit
set_option linter.unusedVariables false
/-- the best region so far, as cells -/
def bcells : CSt → Array Value
  | none => #[.int .i64 0, .int .i64 0, .int .i64 0, .bool false, .bool false, .bool false]
  | some (b, l, q) => #[.int .i64 b, .int .i64 l, .int .i64 (255 - (q : Int)), .bool false, .bool false, .bool false]
theorem bcells_six (s : CSt) : ∃ x y z, bcells s = #[.int .i64 x, .int .i64 y, .int .i64 z, .bool false, .bool false, .bool false] := by
  match s with
  | none => exact ⟨_, _, _, rfl⟩
  | some (b, l, q) => exact ⟨_, _, _, rfl⟩
theorem sCnt_le (a en : Int) (ha : 0 ≤ a) (hae : a < en) (hen : en ≤ 262144) (n : Nat) (hn : n ≤ 10) : sCnt (cvFold a en n) ≤ 262144 := by
  match h : cvFold a en n with
  | none => simp [sCnt]
  | some (b, l, q) =>
    obtain ⟨k1, k2, k3, k4⟩ := cvFold_gives a en ha hae hen n hn b l q h
    obtain ⟨c1, c2⟩ := qOf_cnt a en l k1 k2 ha hae hen
    rw [← k4] at c1
    simp only [sCnt]
    omega

set_option maxRecDepth 100000 in
set_option maxHeartbeats 2000000 in
theorem sCover_good (f s : Int) (w : World) (hf : 0 ≤ f) (hf32 : f % 32 = 0) (hs : 0 ≤ s) (hs32 : s % 32 = 0) (hfs : s ≤ 262144 - f) :
    Calls Tryz.prog 202 #[.int .i64 f, .int .i64 s] w (CvPost w true (cvAll f s)) := by
  obtain ⟨i0, hi, hz0, hz1, hz2⟩ := info_parts infoR
  obtain ⟨L, hL⟩ : ∃ L, L = cvAll f s := ⟨_, rfl⟩
  rw [← hL]
  unfold cvAll at hL
  have HL := hide hL
  clear hL
  have HO := hide (or_empty w w.heap.size (Nat.le_refl _))
  have HB := hide ((Below.refl w.heap.size w).alloc (Nat.le_refl _) (.cells #[] 158))
  have k1 : (f % 32 != 0) = false := by simpa using hf32
  have k2 : (s % 32 != 0) = false := by simpa using hs32
  have k3 : f + s ≤ 262144 := by omega
  have k4 : f ≤ 262144 := by omega
  have k5 : s ≤ 262144 := by omega
  go_enter Tryz.func202, Tryz.ntmps202
  go_wp2_with fail
  go_loopw [0, 1, 6] (fun x y r wr => ∃ (A : Option Addr) (m cap : Nat) (rs : List Rg) (n : Nat) (a z : Int), x = .int .i64 a ∧ y = .int .i64 z ∧ r = .slice A m cap ∧ f ≤ a ∧ a + z = f + s ∧ 0 ≤ z ∧ a % 32 = 0 ∧ z ≤ 32 * (n : Int) ∧ m + n ≤ 8192 ∧ ORg wr w.heap.size (.slice A m cap) rs ∧ L = rs ++ cvList (f + s) n a ∧ Below w.heap.size w wr) (fun _ y _ _ => (intOf y).toNat)
  case atStart => exact ⟨_, 0, 0, [], (s / 32).toNat, f, s, rfl, rfl, rfl, by omega, by omega, by omega, hf32, by omega, by omega, HO.out, by rw [HL.out]; rfl, HB.out⟩
  case round =>
    obtain ⟨A, m, cap, rs, n, a, z, rfl, rfl, rfl, ha, haz, hz, ha32, hn, hmn, hO, hLL, hB⟩ := hrel
    obtain ⟨w9, hw9⟩ : ∃ w9, w9 = wr := ⟨_, rfl⟩
    subst hw9
    by_cases hlt : 0 < z
    · rw [← haz] at hLL
      have hlen := (or_rs hO).1
      obtain ⟨b, l, q, hF, hl, hl2, hq, hc1, hc2, hc3, hb, _⟩ := chosen a (a + z) (by omega) (by omega) (by omega) ha32 (by omega)
      obtain ⟨n, rfl⟩ : ∃ n', n = n' + 1 := ⟨n - 1, by omega⟩
      rw [cvList_step (a + z) n a b l q (by omega) hF] at hLL
      have hbw : 0 ≤ b ∧ b ≤ 262144 := by
        have := base_ok a l _ hl hl2 rfl (by omega) (by omega)
        have := pow_pos l.toNat
        rw [hb]
        unfold baseOf
        omega
      clear hb
      have HF := hide hF
      have HLL := hide hLL
      have HO1 := hide hO
      have HB1 := hide hB
      have HLEN0 := hide hlen
      have HAZ := hide haz
      have hsz := hB.size
      have KZ := hide (Blk.new w9 #[.int .i64 0, .int .i64 0, .int .i64 0, .bool false, .bool false, .bool false] 158)
      clear hLL hO hB hF hlen HO HB
      go_wp2_with fail
      go_loopw [8, 9] (fun mo lg wq => ∃ (k : Nat), k ≤ 10 ∧ mo = .int .i64 (sCnt (cvFold a (a + z) k)) ∧ lg = .int .i64 (5 + (k : Int)) ∧ Blk wq w9.heap.size (bcells (cvFold a (a + z) k)) 158 ∧ Below w9.heap.size w9 wq) (fun _ lg _ => 15 - (intOf lg).toNat)
      case atStart => exact ⟨0, by omega, by rw [cvFold_none]; rfl, rfl, by rw [cvFold_none]; exact KZ.out, (Below.refl _ _).alloc (Nat.le_refl _) _⟩
      case round =>
        obtain ⟨k, hk, rfl, rfl, kb, hBq⟩ := hrel
        have hc0 := sCnt_nonneg (cvFold a (a + z) k)
        have hc9 := sCnt_le a (a + z) (by omega) (by omega) (by omega) k hk
        by_cases hk10 : k < 10
        · have HBE := hide (l2Best_any a z (5 + (k : Int)) wr (by omega) (by omega) (by omega) hlt (by omega))
          have HSU := hide (cvFold_succ a (a + z) k)
          obtain ⟨x1, x2, x3, hx⟩ := bcells_six (cvFold a (a + z) k)
          rw [hx] at kb
          have hqc := qOf_cnt a (a + z) (5 + (k : Int)) (by omega) (by omega) (by omega) (by omega) (by omega)
          have hqn := cnt_nonneg (5 + (k : Int)) (qOf a (a + z) (5 + (k : Int)))
          generalize hst : cvFold a (a + z) k = st at *
          generalize hcq : cnt (5 + (k : Int)) (qOf a (a + z) (5 + (k : Int))) = c at *
          generalize hbb : baseOf a (5 + (k : Int)) = bb at *
          obtain ⟨sc, hsc⟩ : ∃ sc, sc = sCnt st := ⟨_, rfl⟩
          rw [← hsc] at hc0 hc9 ⊢
          have HSC := hide hsc
          have HCQ := hide hcq
          have HX := hide hx
          have hcle : c ≤ 262144 := by omega
          have KB := hide kb
          have HBQ := hide hBq
          have hszq := hBq.size
          have hltq := kb.lt
          clear hsc hcq hx hqc hst hbb kb hBq
          go_wp2_with fail
          refine HBE.out.mono ?_
          rintro e w3 ⟨o, rfl, ho, hb3⟩
          have HO3 := hide ho
          have kb3 := (KB.out.below hb3).alloc (.cells #[.int .i64 bb, .int .i64 (5 + (k : Int)), .int .i64 o, .bool false, .bool false, .bool false] 158)
          have hsz3 := hb3.size
          have HB3 := hide ((HBQ.out.trans (hb3.mono hszq)).alloc (by omega) (.cells #[.int .i64 bb, .int .i64 (5 + (k : Int)), .int .i64 o, .bool false, .bool false, .bool false] 158))
          have KB3 := hide kb3
          obtain ⟨q1, q2, q3, q4, q5, q6, q7⟩ := kb3.six'
          clear ho hb3 kb3
          by_cases hgt : sc < c
          · have HE := hide (show cvFold a (a + z) (k + 1) = some (bb, 5 + (k : Int), qOf a (a + z) (5 + (k : Int))) from by
              rw [HSU.out]
              unfold keep
              rw [if_pos (by rw [← HSC.out, HCQ.out]; exact hgt)])
            go_wp2_with fail
            refine ⟨⟨k + 1, by omega, by rw [HE.out]; exact congrArg (Value.int .i64) HCQ.out.symm, by go_num, ?_, be_below (Nat.le_refl _) HB3.out bb (5 + (k : Int)) o⟩, by simp [intOf]; omega⟩
            rw [HE.out]
            have e2 : bcells (some (bb, 5 + (k : Int), qOf a (a + z) (5 + (k : Int)))) = #[.int .i64 bb, .int .i64 (5 + (k : Int)), .int .i64 o, .bool false, .bool false, .bool false] := by
              simp only [bcells]
              rw [HO3.out (by omega)]
            rw [e2]
            exact Blk.set (Blk.set (Blk.set (Blk.set (Blk.set (Blk.set KB3.out 0 _) 1 _) 2 _) 3 _) 4 _) 5 _
          · have HE := hide (show cvFold a (a + z) (k + 1) = st from by
              rw [HSU.out]
              unfold keep
              rw [if_neg (by rw [← HSC.out, HCQ.out]; exact hgt)])
            go_wp2_with fail
            exact ⟨⟨k + 1, by omega, by rw [HE.out, HSC.out], by go_num, by rw [HE.out, HX.out]; exact KB3.out, HB3.out⟩, by simp [intOf]; omega⟩
        · have hk' : k = 10 := by omega
          subst hk'
          rw [HF.out] at kb hc0 hc9 ⊢
          obtain ⟨o, ho⟩ : ∃ o, o = 255 - (q : Int) := ⟨_, rfl⟩
          obtain ⟨c, hc⟩ : ∃ c, c = cnt l q := ⟨_, rfl⟩
          have kb' : Blk wr w9.heap.size #[.int .i64 b, .int .i64 l, .int .i64 o, .bool false, .bool false, .bool false] 158 := by rw [ho]; exact kb
          have hsc : sCnt (some (b, l, q)) = c := hc.symm
          rw [hsc] at hc0 hc9 ⊢
          rw [← hc] at hc1 hc2 hc3 HLL
          rw [← ho] at HLL
          have hwf : wfi b ∧ wfi l ∧ wfi o := by unfold wfi; omega
          have HWF := hide hwf
          have hO2 := turn_or (S := fun _ => False) (turn_below hBq) HO1.out (fun _ _ => id)
          have HOWN := hide (hO2.1.alloc (.cells #[.int .i64 b, .int .i64 l, .int .i64 o, .bool false, .bool false, .bool false] 158))
          rw [HLEN0.out] at HOWN
          have HLEN := hide (show (cells6 (b, l, o, false, false, false)).length = 1 * 6 from rfl)
          have HNEWS := hide (news6 wr (b, l, o, false, false, false))
          have HONE := hide (one6 (b, l, o, false, false, false))
          have HRS := hide hO2.2
          have HLT := hide hO2.1.lt
          have hszq := hBq.size
          have HB3 := hide ((HB1.out.trans (hBq.mono hsz)).alloc (by omega) (.cells #[.int .i64 b, .int .i64 l, .int .i64 o, .bool false, .bool false, .bool false] 158))
          obtain ⟨q1, q2, q3, q4, q5, q6, q7⟩ := kb'.six'
          clear hO2 hBq kb kb' ho hc hsc hwf
          go_wp2_with (at_builtin; refine wpList_append_own _ rfl _ _ 68 rfl w.heap.size 158 i0 (.agg #[.int .i64 0, .int .i64 0, .int .i64 0, .bool false, .bool false, .bool false]) 6 32 Tryz.underlying68 hi hz0 hz1 hz2 rfl (by decide) (.slice A m cap) m (flat rs) rfl HOWN.out ⟨wr.heap.size, 0, none⟩ 1 1 (cells6 (b, l, o, false, false, false)) rfl HLEN.out HNEWS.out HONE.out (by unfold maxLen; omega) (by omega) (by simp; omega) ?_; intro v' w3 hown3 hgr3 _; obtain ⟨A', cap', he⟩ := or_shape hown3; subst he; have hO3 := or_more (W := wr) (v := .slice A m cap) (g := (b, l, o, false, false, false)) HRS.out HWF.out (by rw [HLEN0.out]; exact hown3); have t3 := grown_turn hgr3; have hfar : ∀ j, (Value.slice A m cap).ownBlock = some j → w.heap.size ≤ j := fun j hj => (HLT.out j hj).1; have HB4 := hide (below_turn HB3.out t3 hfar (by simp; omega)); have HO3 := hide hO3; clear hO3 t3 hfar hown3 hgr3)
          refine ⟨⟨A', m + 1, cap', rs ++ [(b, l, o, false, false, false)], n, a + c, z - c, by go_num, by go_num, rfl, by omega, by omega, by omega, by omega, by omega, by omega, HO3.out, by rw [HLL.out, HAZ.out]; simp, HB4.out⟩, ?_⟩
          simp [intOf]; omega
    · have hzz : z = 0 := by omega
      subst hzz
      have hLe : L = rs := by rw [hLL, cvList_end _ _ _ (by omega), List.append_nil]
      subst hLe
      have HO1 := hide hO
      have HB1 := hide hB
      clear hLL hO hB
      go_wp2_with fail
      go_ret2
      exact ⟨A, m, cap, rfl, HO1.out, HB1.out⟩

theorem sCover_any (f s : Int) (w : World) (h1 : -9223372036854775808 ≤ f ∧ f ≤ 9223372036854775807) (h2 : -9223372036854775808 ≤ s ∧ s ≤ 9223372036854775807) :
    Calls Tryz.prog 202 #[.int .i64 f, .int .i64 s] w (CvPost w (cvOk f s) (cvL f s)) := by
  unfold cvL
  cases e : cvOk f s
  · exact sCover_bad f s w h1 h2 e
  · unfold cvOk grn at e
    simp at e
    exact sCover_good f s w (by omega) (by omega) (by omega) (by omega) (by omega)
end Go.Proofs.YtngdgogjlpjjpaeGreat

namespace Go.Proofs.YtngdgogjlpjjpaeGreat
open Go.RowKit
set_option linter.unusedVariables false
set_option linter.unusedSimpArgs false
set_option maxRecDepth 100000

/-- regions with their rights set -/
def rgt (r x y : Bool) (g : Rg) : Rg := (g.1, g.2.1, g.2.2.1, r, x, y)
def rts (r x y : Bool) (L : List Rg) : List Rg := L.map (rgt r x y)
theorem rts_len (r x y : Bool) (L : List Rg) : (rts r x y L).length = L.length := by simp [rts]
theorem rts_step (r x y : Bool) (L : List Rg) (k : Nat) (h : k < L.length) : (rts r x y L).take (k + 1) = (rts r x y L).take k ++ [rgt r x y (L.getD k z6)] := by
  rw [List.take_add_one]
  congr 1
  simp [rts, List.getD_eq_getElem?_getD, h]
theorem cvList_len : ∀ (n : Nat) (en a : Int), (cvList en n a).length ≤ n
  | 0, en, a => by simp [cvList]
  | n + 1, en, a => by
    unfold cvList
    split
    · unfold cvTurn
      split
      · have := cvList_len n en
        simp only [List.length_cons]
        exact Nat.succ_le_succ (this _)
      · simp
    · simp
theorem cvL_len (f s : Int) : (cvL f s).length ≤ 8192 := by
  unfold cvL
  split
  · rename_i h
    unfold cvAll
    unfold cvOk grn at h
    simp at h
    have := cvList_len (s / 32).toNat (f + s) f
    omega
  · simp
end Go.Proofs.YtngdgogjlpjjpaeGreat

namespace Go.Proofs.YtngdgogjlpjjpaeGreat
open Go.RowKit
set_option linter.unusedVariables false

def set6 (w : World) (g o : Nat) (r : Rg) : World :=
  (((((w.setCell ⟨g, o, none⟩ (.int .i64 r.1)).setCell ⟨g, o + 1, none⟩ (.int .i64 r.2.1)).setCell ⟨g, o + 2, none⟩ (.int .i64 r.2.2.1)).setCell ⟨g, o + 3, none⟩ (.bool r.2.2.2.1)).setCell ⟨g, o + 4, none⟩ (.bool r.2.2.2.2.1)).setCell ⟨g, o + 5, none⟩ (.bool r.2.2.2.2.2)

theorem cell_other {w : World} {g o o' b : Nat} {v : Value} (h : b ≠ g ∨ o' ≠ o) : (w.setCell ⟨g, o, none⟩ v).cell? ⟨b, o', none⟩ = w.cell? ⟨b, o', none⟩ :=
  World.cell?_setCell_other _ _ _ _ (by intro e; injection e; rcases h with h | h <;> simp_all)
theorem cell_same {w : World} {g o : Nat} {u v : Value} (h : w.cell? ⟨g, o, none⟩ = some u) : (w.setCell ⟨g, o, none⟩ v).cell? ⟨g, o, none⟩ = some v := World.cell?_setCell_same _ _ _ h

theorem set6_other (w : World) (g o b o' : Nat) (r : Rg) (h : b ≠ g ∨ o' < o ∨ o + 6 ≤ o') : (set6 w g o r).cell? ⟨b, o', none⟩ = w.cell? ⟨b, o', none⟩ := by
  unfold set6
  rw [cell_other (by omega), cell_other (by omega), cell_other (by omega), cell_other (by omega), cell_other (by omega), cell_other (by omega)]
theorem set6_at {w : World} {g o : Nat} {q : Rg} (h : At6 w g o q) (r : Rg) : At6 (set6 w g o r) g o r := by
  obtain ⟨h1, h2, h3, h4, h5, h6⟩ := h
  unfold set6
  refine ⟨?_, ?_, ?_, ?_, ?_, ?_⟩
  · rw [cell_other (by omega), cell_other (by omega), cell_other (by omega), cell_other (by omega), cell_other (by omega)]; exact cell_same h1
  · rw [cell_other (by omega), cell_other (by omega), cell_other (by omega), cell_other (by omega)]; exact cell_same (by rw [cell_other (by omega)]; exact h2)
  · rw [cell_other (by omega), cell_other (by omega), cell_other (by omega)]; exact cell_same (by rw [cell_other (by omega), cell_other (by omega)]; exact h3)
  · rw [cell_other (by omega), cell_other (by omega)]; exact cell_same (by rw [cell_other (by omega), cell_other (by omega), cell_other (by omega)]; exact h4)
  · rw [cell_other (by omega)]; exact cell_same (by rw [cell_other (by omega), cell_other (by omega), cell_other (by omega), cell_other (by omega)]; exact h5)
  · exact cell_same (by rw [cell_other (by omega), cell_other (by omega), cell_other (by omega), cell_other (by omega), cell_other (by omega)]; exact h6)
theorem set6_far {w : World} {g o b o' : Nat} {q : Rg} (h : At6 w b o' q) (r : Rg) (hf : b ≠ g ∨ o' + 6 ≤ o ∨ o + 6 ≤ o') : At6 (set6 w g o r) b o' q := by
  unfold At6
  rw [set6_other _ _ _ _ _ _ (by omega), set6_other _ _ _ _ _ _ (by omega), set6_other _ _ _ _ _ _ (by omega), set6_other _ _ _ _ _ _ (by omega), set6_other _ _ _ _ _ _ (by omega), set6_other _ _ _ _ _ _ (by omega)]
  exact h
theorem set6_size (w : World) (g o : Nat) (r : Rg) : (set6 w g o r).heap.size = w.heap.size := by simp [set6]
theorem set6_blk {w : World} {g : Nat} {cur : Array Value} {t : TypeId} (h : Blk w g cur t) (o : Nat) (r : Rg) : ∃ cur', Blk (set6 w g o r) g cur' t ∧ cur'.size = cur.size :=
  ⟨_, ((((((h.set o _).set (o + 1) _).set (o + 2) _).set (o + 3) _).set (o + 4) _).set (o + 5) _), by simp⟩
theorem set6_below {B : Nat} {a w : World} (h : Below B a w) {g : Nat} (hg : B ≤ g) (o : Nat) (r : Rg) : Below B a (set6 w g o r) :=
  (((((h.setCell (p := ⟨g, o, none⟩) hg _).setCell (p := ⟨g, o + 1, none⟩) hg _).setCell (p := ⟨g, o + 2, none⟩) hg _).setCell (p := ⟨g, o + 3, none⟩) hg _).setCell (p := ⟨g, o + 4, none⟩) hg _).setCell (p := ⟨g, o + 5, none⟩) hg _

/-- A ROW OF REGIONS OF THE CALL's OWN: the whole block g. -/
def RowR (w : World) (g : Nat) (rs : List Rg) : Prop :=
  (∃ cur, Blk w g cur 158 ∧ cur.size = rs.length * 6) ∧ ∀ i, i < rs.length → At6 w g (i * 6) (rs.getD i z6)
theorem RowR.lt {w : World} {g : Nat} {rs : List Rg} (h : RowR w g rs) : g < w.heap.size := by obtain ⟨⟨cur, hb, _⟩, _⟩ := h; exact hb.lt
theorem RowR.below {w w' : World} {g : Nat} {rs : List Rg} (h : RowR w g rs) (hb : Below w.heap.size w w') : RowR w' g rs := by
  obtain ⟨⟨cur, hc, hs⟩, hr⟩ := h
  exact ⟨⟨cur, hc.below hb, hs⟩, fun i hi => (hr i hi).below hb⟩
theorem RowR.frozen {w : World} {g : Nat} {rs : List Rg} (h : RowR w g rs) (i : Nat) : w.frozen? ⟨g, i, none⟩ = false := by obtain ⟨⟨cur, hb, _⟩, _⟩ := h; exact hb.frozen i
theorem RowR.set {w : World} {g : Nat} {rs : List Rg} (h : RowR w g rs) (i : Nat) (hi : i < rs.length) (r : Rg) : RowR (set6 w g (i * 6) r) g (rs.set i r) := by
  obtain ⟨⟨cur, hc, hs⟩, hr⟩ := h
  obtain ⟨cur', hc', hs'⟩ := set6_blk hc (i * 6) r
  refine ⟨⟨cur', hc', by rw [hs', hs, List.length_set]⟩, fun j hj => ?_⟩
  rw [List.length_set] at hj
  by_cases e : i = j
  · subst e
    have : (rs.set i r).getD i z6 = r := by simp [List.getD_eq_getElem?_getD, hi]
    rw [this]
    exact set6_at (hr i hi) r
  · have : (rs.set i r).getD j z6 = rs.getD j z6 := by simp [List.getD_eq_getElem?_getD, e]
    rw [this]
    exact set6_far (hr j hj) r (by omega)
theorem RowR.rs {w : World} {g : Nat} {rs : List Rg} (h : RowR w g rs) (hm : rs.length ≤ maxLen) (hw : ∀ g ∈ rs, wfi g.1 ∧ wfi g.2.1 ∧ wfi g.2.2.1) (n cap : Nat) (hn : rs.length = n) (hc : n ≤ cap := by exact Nat.le_refl _) : RS w (some ⟨g, 0, none⟩) n cap rs := by
  subst hn
  exact ⟨rfl, hm, hw, fun _ => ⟨g, 0, rfl, fun i hi => by rw [Nat.zero_add]; exact h.2 i hi⟩, hc⟩

theorem rowR_of_made {w : World} {base g n : Nat} (h : w.ownsRow base 158 6 (.slice (some ⟨g, 0, none⟩) n n) n (madeCells (Value.cells (.agg #[.int .i64 0, .int .i64 0, .int .i64 0, .bool false, .bool false, .bool false])) (n * 6)).toList) : RowR w g (List.replicate n z6) := by
  obtain ⟨hl, h | ⟨g', cap, cur, hv, hb, hh, h1, h2, h3, h4⟩⟩ := h
  · simp at h
  · simp at hv
    obtain ⟨rfl, rfl⟩ := hv
    have e : cur.toList = (madeCells (Value.cells (.agg #[.int .i64 0, .int .i64 0, .int .i64 0, .bool false, .bool false, .bool false])) (n * 6)).toList := by
      rw [← h4, List.take_of_length_le (by simp [h3])]
    have e2 : cur = madeCells (Value.cells (.agg #[.int .i64 0, .int .i64 0, .int .i64 0, .bool false, .bool false, .bool false])) (n * 6) := Array.toList_inj.1 e
    have hB : Blk w g cur 158 := hh
    refine ⟨⟨cur, hB, by simp [h3]⟩, fun i hi => ?_⟩
    simp at hi
    have hcell : ∀ j, j < 6 → w.cell? ⟨g, i * 6 + j, none⟩ = #[Value.int .i64 0, .int .i64 0, .int .i64 0, .bool false, .bool false, .bool false][j]? := by
      intro j hj
      rw [hB.cell, e2]
      have hm : (i * 6 + j) % 6 = j := by omega
      simp [madeCells, Value.cells, show i * 6 + j < n * 6 by omega, hm]
      match j, hj with
      | 0, _ => rfl
      | 1, _ => rfl
      | 2, _ => rfl
      | 3, _ => rfl
      | 4, _ => rfl
      | 5, _ => rfl
    have hz : (List.replicate n z6).getD i z6 = z6 := by simp [List.getD_eq_getElem?_getD, hi]
    rw [hz]
    exact ⟨hcell 0 (by omega), hcell 1 (by omega), hcell 2 (by omega), hcell 3 (by omega), hcell 4 (by omega), hcell 5 (by omega)⟩

def midR (rs : List Rg) (k : Nat) : List Rg := (List.range rs.length).map (fun i => if i < k then rs.getD i z6 else z6)
theorem midR_len (rs : List Rg) (k : Nat) : (midR rs k).length = rs.length := by simp [midR]
theorem midR_zero (rs : List Rg) : midR rs 0 = List.replicate rs.length z6 := by
  apply List.ext_getElem
  · simp [midR]
  · intro i h1 h2; simp [midR]
theorem midR_all (rs : List Rg) : midR rs rs.length = rs := by
  apply List.ext_getElem
  · simp [midR]
  · intro i h1 h2; simp [midR, h2]
theorem midR_set (rs : List Rg) (k : Nat) (h : k < rs.length) : (midR rs k).set k (rs.getD k z6) = midR rs (k + 1) := by
  apply List.ext_getElem
  · simp [midR]
  · intro i h1 h2
    simp only [midR, List.getElem_set, List.getElem_map, List.getElem_range]
    by_cases hik : k = i
    · subst hik; simp
    · by_cases h3 : i < k
      · simp [hik, h3, show i < k + 1 by omega]
      · simp [hik, h3, show ¬ i < k + 1 by omega]
end Go.Proofs.YtngdgogjlpjjpaeGreat

namespace Go.Proofs.YtngdgogjlpjjpaeGreat
open Go.RowKit
set_option linter.unusedVariables false

/-- a row of regions at the head of block g -/
def RowW (w : World) (g : Nat) (rs : List Rg) : Prop :=
  (∃ cur, Blk w g cur 158) ∧ ∀ i, i < rs.length → At6 w g (i * 6) (rs.getD i z6)
theorem RowW.frozen {w : World} {g : Nat} {rs : List Rg} (h : RowW w g rs) (i : Nat) : w.frozen? ⟨g, i, none⟩ = false := by obtain ⟨⟨cur, hb⟩, _⟩ := h; exact hb.frozen i
theorem RowW.set {w : World} {g : Nat} {rs : List Rg} (h : RowW w g rs) (i : Nat) (hi : i < rs.length) (r : Rg) : RowW (set6 w g (i * 6) r) g (rs.set i r) := by
  obtain ⟨⟨cur, hc⟩, hr⟩ := h
  obtain ⟨cur', hc', hs'⟩ := set6_blk hc (i * 6) r
  refine ⟨⟨cur', hc'⟩, fun j hj => ?_⟩
  rw [List.length_set] at hj
  by_cases e : i = j
  · subst e
    have : (rs.set i r).getD i z6 = r := by simp [List.getD_eq_getElem?_getD, hi]
    rw [this]
    exact set6_at (hr i hi) r
  · have : (rs.set i r).getD j z6 = rs.getD j z6 := by simp [List.getD_eq_getElem?_getD, e]
    rw [this]
    exact set6_far (hr j hj) r (by omega)
theorem set6_turn (w : World) (g o : Nat) (r : Rg) : Turn (fun j => j = g) w (set6 w g o r) := by
  have step : ∀ (w : World) (o : Nat) (v : Value), Turn (fun j => j = g) w (w.setCell ⟨g, o, none⟩ v) := fun w o v =>
    ⟨rfl, rfl, rfl, by rw [size_setCell]; exact Nat.le_refl _, fun j hj hs => heap_setCell_other _ _ _ _ hs⟩
  unfold set6
  exact (((((step _ _ _).trans (step _ _ _)).trans (step _ _ _)).trans (step _ _ _)).trans (step _ _ _)).trans (step _ _ _)
theorem or_roww {w : World} {base n cap g : Nat} {rs : List Rg} (h : ORg w base (.slice (some ⟨g, 0, none⟩) n cap) rs) (hn : n ≠ 0) : RowW w g rs := by
  have hr := or_rs h
  have hl := hr.1
  obtain ⟨_, ⟨h0, h0'⟩ | ⟨g', cap', cur, hv, hg, hh, h1, h2, h3, h4⟩⟩ := h.1
  · simp at h0
  · simp at hv
    obtain ⟨rfl, _⟩ := hv
    exact ⟨⟨cur, hh⟩, fun i hi => by have := hr.at i (by omega); rw [Nat.zero_add] at this; exact this⟩

theorem turn_or' {S : Nat → Prop} {base : Nat} {w w' : World} {v : Value} {rs : List Rg} (t : Turn S w w') (h : ORg w base v rs) (hk : ∀ k, v.ownBlock = some k → ¬ S k) : ORg w' base v rs := by
  refine ⟨?_, h.2⟩
  obtain ⟨hl, h0 | ⟨g', cap, cur, rfl, hg, hh, h1, h2, h3, h4⟩⟩ := h.1
  · exact ⟨hl, .inl h0⟩
  · exact ⟨hl, .inr ⟨g', cap, cur, rfl, hg, turn_blk t hh (hk g' rfl), h1, h2, h3, h4⟩⟩
theorem or_lt {base : Nat} {w : World} {v : Value} {rs : List Rg} (h : ORg w base v rs) (k : Nat) (hk : v.ownBlock = some k) : k < w.heap.size := by
  obtain ⟨hl, ⟨rfl, h0⟩ | ⟨g', cap, cur, rfl, hg, hh, h1, h2, h3, h4⟩⟩ := h.1
  · cases hk
  · have e : some g' = some k := hk
    injection e with e
    subst e
    exact Blk.lt (w := w) hh

end Go.Proofs.YtngdgogjlpjjpaeGreat
