import Derived.Test.YtngdgogjlpjjpaeGreatJ06
import Derived.Test.YtngdgogjlpjjpaeGreatJ07
import Derived.Laws.AppendOwnNone
import Derived.Test.YtngdgogjlpjjpaeGreatJ00
import Derived.Lib.Bytealg
import Derived.WideShapes
import Derived.Deep.RegionWith
namespace Go.Proofs.YtngdgogjlpjjpaeGreat
open Go.RowKit
set_option linter.unusedVariables false
set_option linter.unusedSimpArgs false
set_option maxRecDepth 100000

theorem or_rowle {base n cap : Nat} {a : Option Addr} {w : World} {rs : List Rg} (h : ORg w base (.slice a n cap) rs) (k : Nat) (hk : (Value.slice a n cap).ownBlock = some k) : base ≤ k := by
  obtain ⟨hl, ⟨h0, _⟩ | ⟨g', cap', cur, hv, hg, hh, h1, h2, h3, h4⟩⟩ := h.1
  · rw [h0] at hk; cases hk
  · rw [hv] at hk
    have e : some g' = some k := hk
    injection e with e
    omega
set_option maxHeartbeats 2000000 in
theorem l6With_any (A : Option Addr) (m cap : Nat) (rs : List Rg) (f s : Int) (r x y : Bool) (base : Nat) (w : World) (hb : base ≤ w.heap.size) (h : ORg w base (.slice A m cap) rs) (hf : wfi f) (hs : wfi s) (hm : m ≤ 1000000) :
    Calls Tryz.prog 134 #[.slice A m cap, .int .i64 f, .int .i64 s, .bool r, .bool x, .bool y] w fun e w' => ∃ A' m' cap', e = .returned (.slice A' m' cap') ∧ m' = m + (cvL f s).length ∧ ORg w' base (.slice A' m' cap') (rs ++ rts r x y (cvL f s)) ∧ Below base w w' := by
  obtain ⟨i0, hi, hz0, hz1, hz2⟩ := info_parts infoR
  have HC := hide (sCover_any f s w (by unfold wfi at hf; omega) (by unfold wfi at hs; omega))
  have HL := hide (cvL_len f s)
  have HO0 := hide h
  have HLEN0 := hide (or_rs h).1
  generalize cvL f s = C at *
  clear h
  go_enter Tryz.func134, Tryz.ntmps134
  go_wp2_with fail
  refine HC.out.mono ?_
  rintro e w2 ⟨c, n, cc, rfl, hC, hB2⟩
  have HN := hide (or_rs hC).1
  have hn : n ≤ 8192 := by have := HN.out; have := HL.out; omega
  have HX := hide (And.intro hC hB2)
  have HO2 := hide (turn_or' (turn_below hB2) HO0.out (fun k hk h => by exact h))
  clear hC hB2
  go_wp2_with fail
  go_loopw [0, 15] (fun o i wr => ∃ (A' : Option Addr) (m' cap' k : Nat), k ≤ n ∧ m' = m + k ∧ o = .slice A' m' cap' ∧ i = .int .i64 k ∧ ORg wr base (.slice A' m' cap') (rs ++ (rts r x y C).take k) ∧ ORg wr w.heap.size (.slice c n cc) C ∧ (∀ j, (Value.slice A' m' cap').ownBlock = some j → ¬ (Value.slice c n cc).ownBlock = some j) ∧ Below base w wr) (fun _ i _ => n - (intOf i).toNat)
  case atStart => exact ⟨A, m, cap, 0, Nat.zero_le _, rfl, rfl, rfl, by simpa using HO2.out, HX.out.1, fun j h1 h2 => by have := or_lt HO0.out j h1; have := or_rowle HX.out.1 j h2; omega, HX.out.2.mono hb⟩
  case round =>
    obtain ⟨A', m', cap', k, hk, hm', rfl, rfl, hO, hC, hd, hB⟩ := hrel
    by_cases hlt : k < n
    · have hlt' : (k : Int) < (n : Int) := by omega
      obtain ⟨b, off, rfl⟩ := (or_rs hC).some (by omega)
      have hat := (or_rs hC).at k hlt
      have hC2 := hC.2 (C.getD k z6) (by
        have : k < C.length := by rw [HN.out]; exact hlt
        simp [List.getD_eq_getElem?_getD, this])
      have HT := hide (rts_step r x y C k (by rw [HN.out]; exact hlt))
      generalize hG : C.getD k z6 = G at *
      obtain ⟨g1, g2, g3, g4, g5, g6⟩ := G
      have HG := hide hG
      obtain ⟨p0, p1, p2, p3, p4, p5⟩ := hat
      obtain ⟨W1, hW1⟩ : ∃ W1, W1 = wr.alloc (.cells #[.int .i64 g1, .int .i64 g2, .int .i64 g3, .bool g4, .bool g5, .bool g6] 158) := ⟨_, rfl⟩
      have K1 : Blk W1 wr.heap.size #[.int .i64 g1, .int .i64 g2, .int .i64 g3, .bool g4, .bool g5, .bool g6] 158 := by rw [hW1]; exact Blk.new _ _ _
      have B1 : Below wr.heap.size wr W1 := by rw [hW1]; exact (Below.refl _ _).alloc (Nat.le_refl _) _
      have s1 : W1.heap.size = wr.heap.size + 1 := by rw [hW1]; simp
      obtain ⟨W2, hW2⟩ : ∃ W2, W2 = ((W1.setCell ⟨wr.heap.size, 3, none⟩ (.bool r)).setCell ⟨wr.heap.size, 4, none⟩ (.bool x)).setCell ⟨wr.heap.size, 5, none⟩ (.bool y) := ⟨_, rfl⟩
      have K2 : Blk W2 wr.heap.size #[.int .i64 g1, .int .i64 g2, .int .i64 g3, .bool r, .bool x, .bool y] 158 := by
        rw [hW2]; exact ((K1.set 3 (.bool r)).set 4 (.bool x)).set 5 (.bool y)
      have B2 : Below wr.heap.size wr W2 := by rw [hW2]; exact ((B1.setCell (Nat.le_refl _) _).setCell (Nat.le_refl _) _).setCell (Nat.le_refl _) _
      have s2 : W2.heap.size = wr.heap.size + 1 := by rw [hW2]; simp [s1]
      have BB : Below wr.heap.size wr (W2.alloc (.cells #[.int .i64 g1, .int .i64 g2, .int .i64 g3, .bool r, .bool x, .bool y] 158)) := B2.alloc (by rw [s2]; omega) _
      have HOW := hide (show (W2.alloc (.cells #[.int .i64 g1, .int .i64 g2, .int .i64 g3, .bool r, .bool x, .bool y] 158)).ownsRow base 158 6 (.slice A' m' cap') m' (flat (rs ++ (rts r x y C).take k)) from by
        have := (turn_or' (turn_below BB) hO (fun _ _ h => h)).1
        rwa [(or_rs hO).1] at this)
      have HNEWS := hide (by have := news6 W2 (g1, g2, g3, r, x, y); rw [s2] at this; exact this)
      have HMM := hide hm'
      have HONE := hide (one6 (g1, g2, g3, r, x, y))
      have HRS := hide hO.2
      have HLB := hide (or_lt hO)
      have HGE := hide (or_rowle hO)
      have HCW := hide (turn_or' (turn_below BB) hC (fun _ _ h => h))
      have HCL := hide (or_lt hC)
      have HD := hide hd
      have HML := hide (or_rs hO).1
      have HSZ := hide (show base ≤ (W2.alloc (.cells #[.int .i64 g1, .int .i64 g2, .int .i64 g3, .bool r, .bool x, .bool y] 158)).heap.size from by have := hB.size; simp; omega)
      have HSY := hide (show (W2.alloc (.cells #[.int .i64 g1, .int .i64 g2, .int .i64 g3, .bool r, .bool x, .bool y] 158)).heap.size = wr.heap.size + 2 from by simp [s2])
      have HB3 := hide (show Below base w (W2.alloc (.cells #[.int .i64 g1, .int .i64 g2, .int .i64 g3, .bool r, .bool x, .bool y] 158)) from hB.trans (BB.mono (by have := hB.size; omega)))
      have HG2 := hide hC2
      obtain ⟨q1, q2, q3, q4, q5, q6, q7⟩ := K1.six'
      obtain ⟨u1, u2, u3, u4, u5, u6, u7⟩ := K2.six'
      have HW1 := hide hW1
      have HW2 := hide hW2
      clear hW1 hW2 K1 K2 B1 B2 BB hO hC hd hB hC2 hG hm'
      generalize hW3 : W2.alloc (.cells #[.int .i64 g1, .int .i64 g2, .int .i64 g3, .bool r, .bool x, .bool y] 158) = W3 at *
      have HW3 := hide hW3
      clear hW3
      go_wp2_with (first | rw [← HW1.out] | rw [← HW2.out] | rw [HW3.out] | (at_builtin; refine wpList_append_own_at _ rfl _ _ 68 rfl base 158 i0 (.agg #[.int .i64 0, .int .i64 0, .int .i64 0, .bool false, .bool false, .bool false]) 6 32 Tryz.underlying68 hi hz0 hz1 hz2 rfl (by decide) (.slice A' m' cap') m' (flat (rs ++ (rts r x y C).take k)) rfl HOW.out ⟨wr.heap.size + 1, 0, none⟩ 1 1 (cells6 (g1, g2, g3, r, x, y)) rfl rfl HNEWS.out HONE.out (by have := HMM.out; unfold maxLen; omega) (by have := HMM.out; omega) HSZ.out ?_; intro v' w3 hown3 hgr3 _ hat3; have HP := hide (And.intro hown3 (And.intro hgr3 hat3)); clear hown3 hgr3 hat3; obtain ⟨A2, cap2, he⟩ := or_shape HP.out.1; subst he))
      have t3 := grown_turn HP.out.2.1
      refine ⟨⟨A2, m' + 1, cap2, k + 1, by omega, by have := HMM.out; omega, rfl, by go_num, ?_, ?_, ?_, ?_⟩, by simp [intOf]; omega⟩
      · rw [HT.out, ← List.append_assoc]
        refine or_more (W := W3) (v := .slice A' m' cap') HRS.out HG2.out ?_
        rw [HML.out]
        exact HP.out.1
      · exact turn_or' t3 HCW.out (fun j hj h => HD.out j h hj)
      · intro j h1 h2
        rcases HP.out.2.2 with h | h
        · exact HD.out j (h ▸ h1) h2
        · rw [h1] at h
          injection h with h
          have := HCL.out j h2
          have := HSY.out
          omega
      · exact below_turn HB3.out t3 (fun j hj => HGE.out j hj) HSZ.out
    · have HE := hide (show k = n by omega)
      have HF := hide (And.intro hO hB)
      clear hO hC hd hB
      go_wp2
      go_ret
      refine ⟨A', m', cap', rfl, by rw [hm', HE.out, HN.out], ?_, HF.out.2⟩
      have := HF.out.1
      rwa [List.take_of_length_le (by rw [rts_len, HE.out, HN.out]; exact Nat.le_refl _)] at this
end Go.Proofs.YtngdgogjlpjjpaeGreat

namespace Go.Proofs.YtngdgogjlpjjpaeGreat
open Go.RowKit
set_option linter.unusedVariables false
set_option linter.unusedSimpArgs false
set_option maxRecDepth 100000

theorem rs_news {w : World} {b off n cap : Nat} {rs : List Rg} (h : RS w (some ⟨b, off, none⟩) n cap rs) : ∀ j u, (flat rs)[j]? = some u → w.cell? ((⟨b, off, none⟩ : Addr).add j) = some u := by
  intro j u hj
  have hl := h.1
  have hj2 : j < (flat rs).length := by
    rcases Nat.lt_or_ge j (flat rs).length with h' | h'
    · exact h'
    · rw [List.getElem?_eq_none h'] at hj; cases hj
  rw [flat6_len] at hj2
  have hq : j / 6 < rs.length := by omega
  have hr : j % 6 < 6 := Nat.mod_lt _ (by omega)
  have e := flat6_get rs (j / 6) (j % 6) hq hr
  rw [show j / 6 * 6 + j % 6 = j by omega, hj] at e
  obtain ⟨h1, h2, h3, h4, h5, h6⟩ := h.at (j / 6) (by omega)
  rw [addr_add, show off + j = off + j / 6 * 6 + j % 6 by omega]
  rw [e]
  generalize rs.getD (j / 6) z6 = G at *
  generalize j / 6 = q at *
  have c : j % 6 = 0 ∨ j % 6 = 1 ∨ j % 6 = 2 ∨ j % 6 = 3 ∨ j % 6 = 4 ∨ j % 6 = 5 := by omega
  rcases c with c | c | c | c | c | c <;> rw [c]
  · exact h1
  · exact h2
  · exact h3
  · exact h4
  · exact h5
  · exact h6
theorem flat6_one (rs : List Rg) : ∀ u ∈ flat rs, u.oneCell' = true := by
  intro u hu
  simp only [flat, List.mem_flatMap] at hu
  obtain ⟨g, _, hg⟩ := hu
  exact one6 g u hg
theorem flat_app (xs ys : List Rg) : flat (xs ++ ys) = flat xs ++ flat ys := by simp [flat]
/-- a span: from, size, its rights -/
abbrev Spn := Int × Int × Bool × Bool × Bool
def spR (p : Spn) : List Rg := rts p.2.2.1 p.2.2.2.1 p.2.2.2.2 (cvL p.1 p.2.1)
def zSp : Spn := (0, 0, false, false, false)
def At5 (w : World) (b o : Nat) (p : Spn) : Prop :=
  w.cell? ⟨b, o, none⟩ = some (.int .i64 p.1) ∧ w.cell? ⟨b, o + 1, none⟩ = some (.int .i64 p.2.1) ∧ w.cell? ⟨b, o + 2, none⟩ = some (.bool p.2.2.1) ∧
  w.cell? ⟨b, o + 3, none⟩ = some (.bool p.2.2.2.1) ∧ w.cell? ⟨b, o + 4, none⟩ = some (.bool p.2.2.2.2)
theorem At5.below {w w' : World} {b o : Nat} {p : Spn} (h : At5 w b o p) (hb : Below w.heap.size w w') : At5 w' b o p := by
  obtain ⟨h1, h2, h3, h4, h5⟩ := h
  have hl : b < w.heap.size := World.block_lt_of_cell? w _ h1
  unfold At5
  rw [hb.cell (p := ⟨b, o, none⟩) hl, hb.cell (p := ⟨b, o + 1, none⟩) hl, hb.cell (p := ⟨b, o + 2, none⟩) hl, hb.cell (p := ⟨b, o + 3, none⟩) hl, hb.cell (p := ⟨b, o + 4, none⟩) hl]
  exact ⟨h1, h2, h3, h4, h5⟩
theorem spR_len (p : Spn) : (spR p).length ≤ 8192 := by unfold spR; rw [rts_len]; exact cvL_len _ _
theorem sps_len (ss : List Spn) : (ss.flatMap spR).length ≤ 8192 * ss.length := by
  induction ss with
  | nil => simp
  | cons p ss ih => have := spR_len p; simp only [List.flatMap_cons, List.length_append, List.length_cons]; omega
theorem sps_step (ss : List Spn) (k : Nat) (h : k < ss.length) : (ss.take (k + 1)).flatMap spR = (ss.take k).flatMap spR ++ spR (ss.getD k zSp) := by
  rw [List.take_add_one, List.flatMap_append]
  congr 1
  simp [List.getD_eq_getElem?_getD, h]

set_option maxHeartbeats 2000000 in
theorem joined_any (b off n cap : Nat) (ss : List Spn) (w : World) (hn : ss.length = n) (hn4 : n ≤ 4) (hw : ∀ i, i < n → wfi (ss.getD i zSp).1 ∧ wfi (ss.getD i zSp).2.1) (h : ∀ i, i < n → At5 w b (off + i * 5) (ss.getD i zSp)) :
    Calls Tryz.prog 184 #[.slice (some ⟨b, off, none⟩) n cap] w fun e w' => ∃ A m cap', e = .returned (.slice A m cap') ∧ m = (ss.flatMap spR).length ∧ ORg w' w.heap.size (.slice A m cap') (ss.flatMap spR) ∧ Below w.heap.size w w' := by
  obtain ⟨i0, hi, hz0, hz1, hz2⟩ := info_parts infoR
  have HA := hide h
  have HW := hide hw
  have HN := hide hn
  clear h hw hn
  go_enter Tryz.func184, Tryz.ntmps184
  go_wp2_with fail
  go_loopw [3, 8] (fun o i wr => ∃ (A : Option Addr) (m cap' k : Nat), k ≤ n ∧ o = .slice A m cap' ∧ i = .int .i64 k ∧ ORg wr w.heap.size (.slice A m cap') ((ss.take k).flatMap spR) ∧ Below w.heap.size w wr) (fun _ i _ => n - (intOf i).toNat)
  case atStart => exact ⟨none, 0, 0, 0, Nat.zero_le _, rfl, rfl, org_nil _ _, Below.refl _ _⟩
  case round =>
    obtain ⟨A, m, cap', k, hk, rfl, rfl, hO, hB⟩ := hrel
    by_cases hlt : k < n
    · have hlt' : (k : Int) < (n : Int) := by omega
      obtain ⟨p0, p1, p2, p3, p4⟩ := (HA.out k hlt).below hB
      have HT := hide (sps_step ss k (by rw [HN.out]; exact hlt))
      have hww := HW.out k hlt
      generalize ss.getD k zSp = G at *
      obtain ⟨f, s, r, x, y⟩ := G
      obtain ⟨V, hV⟩ : ∃ V, V = wr.alloc (.cells #[.int .i64 f, .int .i64 s, .bool r, .bool x, .bool y] 232) := ⟨_, rfl⟩
      have KV : Blk V wr.heap.size #[.int .i64 f, .int .i64 s, .bool r, .bool x, .bool y] 232 := by rw [hV]; exact Blk.new _ _ _
      have BV : Below wr.heap.size wr V := by rw [hV]; exact (Below.refl _ _).alloc (Nat.le_refl _) _
      have e0 : V.cell? ⟨wr.heap.size, 0, none⟩ = some (.int .i64 f) := KV.cell 0
      have e1 : V.cell? ⟨wr.heap.size, 1, none⟩ = some (.int .i64 s) := KV.cell 1
      have e2 : V.cell? ⟨wr.heap.size, 2, none⟩ = some (.bool r) := KV.cell 2
      have e3 : V.cell? ⟨wr.heap.size, 3, none⟩ = some (.bool x) := KV.cell 3
      have e4 : V.cell? ⟨wr.heap.size, 4, none⟩ = some (.bool y) := KV.cell 4
      have HR := hide (regions_any f s r x y V hww.1 hww.2)
      have HO := hide (turn_or' (turn_below BV) hO (fun _ _ h => h))
      have HML := hide (or_rs hO).1
      have HMX := hide (show m ≤ 32768 by have h1 := sps_len (ss.take k); rw [(or_rs hO).1, List.length_take, HN.out] at h1; omega)
      have HLE := hide (or_lt hO)
      have HBV := hide (hB.trans (BV.mono hB.size))
      have HSV := hide (show w.heap.size ≤ V.heap.size from Nat.le_trans hB.size BV.size)
      have HV := hide hV
      have HGE := hide (fun j hj => or_rowle hO j hj)
      clear hV KV BV hO hB hww
      go_wp2_with (rw [← HV.out])
      refine HR.out.mono ?_
      rintro e w3 ⟨X, q, qc, rfl, hX, hnil, hB3⟩
      have HL3 := hide (show q ≤ 8192 by have h1 := spR_len (f, s, r, x, y); have h2 := hX.1; unfold spR at h1; simp only at h1; omega)
      have HO3 := hide (turn_or' (turn_below hB3) HO.out (fun _ _ h => h))
      have HB4 := hide (HBV.out.trans (hB3.mono HSV.out))
      have HSZ := hide (show w.heap.size ≤ w3.heap.size from Nat.le_trans HSV.out hB3.size)
      have HX := hide hX
      have HNIL := hide hnil
      clear hX hnil hB3
      have HOW := hide (show w3.ownsRow w.heap.size 158 6 (.slice A m cap') m (flat ((ss.take k).flatMap spR)) from by have := HO3.out.1; rwa [HML.out] at this)
      have HSP := hide (show spR (f, s, r, x, y) = rts r x y (cvL f s) from rfl)
      have HWF := hide HX.out.2.2.1
      obtain ⟨M, hM⟩ : ∃ M, M = rts r x y (cvL f s) := ⟨_, rfl⟩
      rw [← hM] at HX HSP HWF
      have HLEN := hide (show (flat M).length = q * 6 by rw [flat6_len, HX.out.1])
      have HONE := hide (flat6_one M)
      clear hM
      match X with
      | none =>
        obtain ⟨rfl, rfl⟩ := HNIL.out rfl
        go_wp2_with (at_builtin; refine wpList_append_own_none rfl _ _ 68 rfl w.heap.size 158 i0 6 Tryz.underlying68 hi (.slice A m cap') m (flat ((ss.take k).flatMap spR)) rfl HOW.out rfl ?_)
        refine ⟨⟨A, m, cap', k + 1, by omega, rfl, by go_num, ?_, HB4.out⟩, by simp [intOf]; omega⟩
        rw [HT.out, HSP.out, List.eq_nil_of_length_eq_zero HX.out.1, List.append_nil]
        exact HO3.out
      | some ad =>
        have HNEWS := hide (show ∀ j u, (flat M)[j]? = some u → w3.cell? (ad.add j) = some u from by
          by_cases hq : q = 0
          · have e : M = [] := List.eq_nil_of_length_eq_zero (by rw [HX.out.1]; exact hq)
            rw [e]; intro j u hj; simp [flat] at hj
          · obtain ⟨b', off', he⟩ := HX.out.some hq
            injection he with he
            subst he
            exact rs_news HX.out)
        go_wp2_with (at_builtin; refine wpList_append_own _ rfl _ _ 68 rfl w.heap.size 158 i0 (.agg #[.int .i64 0, .int .i64 0, .int .i64 0, .bool false, .bool false, .bool false]) 6 32 Tryz.underlying68 hi hz0 hz1 hz2 rfl (by decide) (.slice A m cap') m (flat ((ss.take k).flatMap spR)) rfl HOW.out ad q qc (flat M) rfl HLEN.out HNEWS.out HONE.out (by have := HMX.out; have := HL3.out; unfold maxLen; omega) (by have := HMX.out; have := HL3.out; omega) HSZ.out ?_; intro v' w4 hown4 hgr4 _; have HP := hide (And.intro hown4 hgr4); clear hown4 hgr4; obtain ⟨A2, cap2, he⟩ := or_shape HP.out.1; subst he)
        refine ⟨⟨A2, m + q, cap2, k + 1, by omega, rfl, by go_num, ?_, below_turn HB4.out (grown_turn HP.out.2) (fun j hj => HGE.out j hj) HSZ.out⟩, by simp [intOf]; omega⟩
        rw [HT.out, HSP.out]
        refine ⟨?_, fun y hy => ?_⟩
        · rw [List.length_append, HML.out, HX.out.1, flat_app]
          exact HP.out.1
        · rcases List.mem_append.1 hy with hy | hy
          · exact HO3.out.2 y hy
          · exact HWF.out y hy
    · have HE := hide (show k = n by omega)
      have HF := hide (And.intro hO hB)
      clear hO hB
      go_wp2
      go_ret
      have h1 := HF.out.1
      rw [List.take_of_length_le (by rw [HN.out, HE.out]; exact Nat.le_refl _)] at h1
      exact ⟨A, m, cap', rfl, (or_rs h1).1.symm, h1, HF.out.2⟩
end Go.Proofs.YtngdgogjlpjjpaeGreat

namespace Go.Proofs.YtngdgogjlpjjpaeGreat
open Go.RowKit
set_option linter.unusedVariables false
set_option linter.unusedSimpArgs false
set_option maxRecDepth 100000

/-- a byte of a text -/
def byt (s : ByteArray) (k : Nat) : Int := ((s.get! k).toNat : Int)
theorem byt_range (s : ByteArray) (k : Nat) : 0 ≤ byt s k ∧ byt s k ≤ 255 := by
  unfold byt
  have := (s.get! k).toNat_lt
  omega
theorem get_bang (s : ByteArray) (k : Nat) (h : k < s.size) : s.get! k = s[k]'h := by
  simp only [ByteArray.get!, getElem!_def]
  have : s.data[k]? = some (s.data[k]'h) := Array.getElem?_eq_getElem h
  rw [this]
  rfl
theorem str_index (s : ByteArray) (k : Nat) (h : k < s.size) (w : World) : (Instr.index 9 (.string s) (.int .i64 (k : Int))).run Tryz.prog w = .ok (.int .u8 (byt s k)) w := by
  rw [run_index_string w 9 s .i64 (k : Int) Tryz.underlying9, dif_pos (by omega)]
  simp only [byt, Int.toNat_natCast, get_bang s k h]
/-- WHAT A NAME IS. -/
def nmo (s : ByteArray) : Bool := decide (1 ≤ s.size ∧ s.size ≤ 12) && (List.range s.size).all fun k => decide (97 ≤ byt s k ∧ byt s k ≤ 122)
theorem nmo_bad (s : ByteArray) (k : Nat) (hk : k < s.size) (h : ¬ (97 ≤ byt s k ∧ byt s k ≤ 122)) : nmo s = false := by
  unfold nmo
  rw [Bool.and_eq_false_iff]
  right
  rw [List.all_eq_false]
  exact ⟨k, by simpa using hk, by simpa using h⟩
theorem nmo_good (s : ByteArray) (h : ∀ j, j < s.size → 97 ≤ byt s j ∧ byt s j ≤ 122) : nmo s = decide (1 ≤ s.size ∧ s.size ≤ 12) := by
  unfold nmo
  rw [show ((List.range s.size).all fun k => decide (97 ≤ byt s k ∧ byt s k ≤ 122)) = true from List.all_eq_true.2 (fun k hk => by simpa using h k (by simpa using hk)), Bool.and_true]

set_option maxHeartbeats 1000000 in
theorem l4NameOk_any (s : ByteArray) (w : World) (hs : s.size ≤ 1048576) :
    Calls Tryz.prog 214 #[.string s] w fun e w' => e = .returned (.bool (nmo s)) ∧ w = w' := by
  obtain ⟨N, hN⟩ : ∃ N, N = s.size := ⟨_, rfl⟩
  go_enter Tryz.func214, Tryz.ntmps214
  go_wp2_with fail
  go_loop [3] (fun i => ∃ k : Nat, k ≤ s.size ∧ i = .int .i64 k ∧ Hid (∀ j, j < k → 97 ≤ byt s j ∧ byt s j ≤ 122)) (fun i => s.size - (intOf i).toNat)
  case atStart => exact ⟨0, Nat.zero_le _, rfl, hide (fun j hj => by omega)⟩
  case round =>
    obtain ⟨k, hk, rfl, HJ⟩ := hrel
    by_cases hlt : k < s.size
    · have hlt' : (k : Int) < (s.size : Int) := by omega
      have hix := str_index s k hlt
      obtain ⟨z0, z1⟩ := byt_range s k
      have HZ := hide (nmo_bad s k hlt)
      have HG := hide (show 97 ≤ byt s k ∧ byt s k ≤ 122 → ∀ j, j < k + 1 → 97 ≤ byt s j ∧ byt s j ≤ 122 from fun h j hj => by
        by_cases e : j = k
        · subst e; exact h
        · exact HJ.out j (by omega))
      generalize byt s k = z at *
      by_cases c1 : z < 97
      · have c1' : (z < 97) = True := by simp [c1]
        go_wp2
        go_ret
        exact ⟨ret_bool (HZ.out (by omega)).symm, rfl⟩
      · by_cases c2 : 122 < z
        · go_wp2
          go_ret
          exact ⟨ret_bool (HZ.out (by omega)).symm, rfl⟩
        · go_wp2
          go_round
          case rel => exact ⟨k + 1, by omega, by go_num, hide (HG.out (by omega))⟩
          case measure => simp [intOf]; omega
    · have e : Hid (k = s.size) := by show k = s.size; omega
      have HE := hide (nmo_good s (fun j hj => HJ.out j (by rw [e.out]; exact hj)))
      by_cases c1 : 1 ≤ s.size
      · by_cases c2 : s.size ≤ 12
        · go_wp2
          go_ret
          exact ⟨ret_bool (by have := e.out; rw [HE.out, Bool.eq_iff_iff]; simp; omega), rfl⟩
        · go_wp2
          go_ret
          exact ⟨ret_bool (by have := e.out; rw [HE.out, Bool.eq_iff_iff]; simp; omega), rfl⟩
      · go_wp2
        go_ret
        exact ⟨ret_bool (by have := e.out; rw [HE.out, Bool.eq_iff_iff]; simp; omega), rfl⟩

set_option maxHeartbeats 1000000 in
theorem isName_any (s : ByteArray) (w : World) (hs : s.size ≤ 1048576) :
    Calls Tryz.prog 264 #[.string s] w fun e w' => e = .returned (.bool (nmo s)) ∧ w = w' := by
  by_cases c1 : s.size < 1
  · have HF : Hid (nmo s = false) := by show _ = _; unfold nmo; rw [Bool.and_eq_false_iff]; left; simp; omega
    have c1' : (s.size : Int) < 1 := by omega
    go_enter Tryz.func264, Tryz.ntmps264
    go_wp2
    go_ret
    exact ⟨ret_bool HF.out.symm, rfl⟩
  · by_cases c2 : 12 < s.size
    · have HF : Hid (nmo s = false) := by show _ = _; unfold nmo; rw [Bool.and_eq_false_iff]; left; simp; omega
      have c1' : ¬ (s.size : Int) < 1 := by omega
      have c2' : (12 : Int) < (s.size : Int) := by omega
      go_enter Tryz.func264, Tryz.ntmps264
      go_wp2
      go_ret
      exact ⟨ret_bool HF.out.symm, rfl⟩
    · have c1' : ¬ (s.size : Int) < 1 := by omega
      have c2' : ¬ (12 : Int) < (s.size : Int) := by omega
      go_enter Tryz.func264, Tryz.ntmps264
      go_wp2_with fail
      go_loop [14] (fun i => ∃ k : Nat, k ≤ s.size ∧ i = .int .i64 k ∧ Hid (∀ j, j < k → 97 ≤ byt s j ∧ byt s j ≤ 122)) (fun i => s.size - (intOf i).toNat)
      case atStart => exact ⟨0, Nat.zero_le _, rfl, hide (fun j hj => by omega)⟩
      case round =>
        obtain ⟨k, hk, rfl, HJ⟩ := hrel
        by_cases hlt : k < s.size
        · have hlt' : (k : Int) < (s.size : Int) := by omega
          have hix := str_index s k hlt
          obtain ⟨z0, z1⟩ := byt_range s k
          have HZ := hide (nmo_bad s k hlt)
          have HG := hide (show 97 ≤ byt s k ∧ byt s k ≤ 122 → ∀ j, j < k + 1 → 97 ≤ byt s j ∧ byt s j ≤ 122 from fun h j hj => by
            by_cases e : j = k
            · subst e; exact h
            · exact HJ.out j (by omega))
          generalize byt s k = z at *
          by_cases d1 : z < 97
          · go_wp2
            go_ret
            exact ⟨ret_bool (HZ.out (by omega)).symm, rfl⟩
          · by_cases d2 : 122 < z
            · go_wp2
              go_ret
              exact ⟨ret_bool (HZ.out (by omega)).symm, rfl⟩
            · go_wp2
              go_round
              case rel => exact ⟨k + 1, by omega, by go_num, hide (HG.out (by omega))⟩
              case measure => simp [intOf]; omega
        · have e : Hid (k = s.size) := by show k = s.size; omega
          have HE := hide (nmo_good s (fun j hj => HJ.out j (by rw [e.out]; exact hj)))
          go_wp2
          go_ret
          exact ⟨ret_bool (by have := e.out; rw [HE.out, Bool.eq_iff_iff]; simp; omega), rfl⟩
end Go.Proofs.YtngdgogjlpjjpaeGreat

namespace Go.Proofs.YtngdgogjlpjjpaeGreat
open Go.RowKit
set_option linter.unusedVariables false
set_option linter.unusedSimpArgs false
set_option maxRecDepth 100000

/-- THE PLACE OF THE FIRST POINT, from k on, with f places left; -1 where there is none. -/
def dotFrom (s : ByteArray) : Nat → Nat → Int
  | 0, _ => -1
  | f + 1, k => if byt s k = 46 then (k : Int) else dotFrom s f (k + 1)
def dot (s : ByteArray) : Int := dotFrom s s.size 0

set_option maxHeartbeats 1000000 in
theorem l4Dot_any (s : ByteArray) (w : World) (hs : s.size ≤ 1048576) :
    Calls Tryz.prog 251 #[.string s] w fun e w' => e = .returned (.int .i64 (dot s)) ∧ w = w' := by
  go_enter Tryz.func251, Tryz.ntmps251
  go_wp2_with fail
  go_loop [3] (fun i => ∃ k : Nat, k ≤ s.size ∧ i = .int .i64 k ∧ Hid (dot s = dotFrom s (s.size - k) k)) (fun i => s.size - (intOf i).toNat)
  case atStart => exact ⟨0, Nat.zero_le _, rfl, hide rfl⟩
  case round =>
    obtain ⟨k, hk, rfl, HJ⟩ := hrel
    by_cases hlt : k < s.size
    · have hlt' : (k : Int) < (s.size : Int) := by omega
      have hix := str_index s k hlt
      obtain ⟨z0, z1⟩ := byt_range s k
      have HD := hide (show dot s = if byt s k = 46 then (k : Int) else dotFrom s (s.size - (k + 1)) (k + 1) from by
        rw [HJ.out, show s.size - k = (s.size - (k + 1)) + 1 by omega]; rfl)
      clear HJ
      generalize byt s k = z at *
      by_cases c1 : z = 46
      · have HE := hide (show dot s = (k : Int) from by rw [HD.out, if_pos c1])
        subst c1
        go_wp2
        go_ret
        exact ⟨ret_int HE.out.symm, rfl⟩
      · have HE := hide (show dot s = dotFrom s (s.size - (k + 1)) (k + 1) from by rw [HD.out, if_neg c1])
        have c1' : (z == 46) = false := by simpa using c1
        go_wp2
        go_round
        case rel => exact ⟨k + 1, by omega, by go_num, HE⟩
        case measure => simp [intOf]; omega
    · have e : Hid (dot s = -1) := by
        show dot s = -1
        rw [HJ.out, show s.size - k = 0 by omega]; rfl
      go_wp2
      go_ret
      exact ⟨ret_int e.out.symm, rfl⟩
end Go.Proofs.YtngdgogjlpjjpaeGreat

namespace Go.Proofs.YtngdgogjlpjjpaeGreat
open Go.RowKit
set_option linter.unusedVariables false
set_option linter.unusedSimpArgs false
set_option maxRecDepth 100000

theorem dotFrom_range (s : ByteArray) : ∀ (f k : Nat), dotFrom s f k = -1 ∨ ((k : Int) ≤ dotFrom s f k ∧ dotFrom s f k < k + f)
  | 0, k => Or.inl rfl
  | f + 1, k => by
    unfold dotFrom
    split
    · right; omega
    · rcases dotFrom_range s f (k + 1) with h | h
      · left; exact h
      · right; omega
theorem dot_range (s : ByteArray) : dot s = -1 ∨ (0 ≤ dot s ∧ dot s < s.size) := by
  have := dotFrom_range s s.size 0
  unfold dot
  omega
/-- the two parts of an import -/
def cutA (s : ByteArray) : ByteArray := s.extract 0 (dot s).toNat
def cutB (s : ByteArray) : ByteArray := s.extract (dot s + 1).toNat s.size
theorem cutA_size (s : ByteArray) (hs : s.size ≤ 1048576) : (cutA s).size ≤ 1048576 := by
  unfold cutA
  rw [ByteArray.size_extract]
  omega
theorem cutB_size (s : ByteArray) (hs : s.size ≤ 1048576) : (cutB s).size ≤ 1048576 := by
  unfold cutB
  rw [ByteArray.size_extract]
  omega
/-- WHAT AN IMPORT IS. -/
def full (s : ByteArray) : Bool := decide (0 ≤ dot s) && (nmo (cutA s) && nmo (cutB s))

set_option maxHeartbeats 1000000 in
theorem l4FullOk_any (s : ByteArray) (w : World) (hs : s.size ≤ 1048576) :
    Calls Tryz.prog 217 #[.string s] w fun e w' => e = .returned (.bool (full s)) ∧ w = w' := by
  have HD := hide (fun w => l4Dot_any s w hs)
  have HA := hide (fun w => l4NameOk_any (cutA s) w (cutA_size s hs))
  have HB := hide (fun w => l4NameOk_any (cutB s) w (cutB_size s hs))
  obtain ⟨r, hr⟩ : ∃ r, r = full s := ⟨_, rfl⟩
  rw [← hr]
  unfold full at hr
  unfold cutA cutB at *
  rcases dot_range s with h | ⟨h0, h1⟩
  · rw [h] at HD hr
    have HR := hide (show r = false from by rw [hr]; rfl)
    clear HA HB hr h
    go_enter Tryz.func217, Tryz.ntmps217
    go_wp2_with (go_at_call 251; refine (HD.out _).mono ?_; rintro e w1 ⟨rfl, rfl⟩)
    go_ret
    exact ⟨ret_bool HR.out.symm, rfl⟩
  · generalize dot s = p at *
    generalize nmo (s.extract 0 p.toNat) = A at *
    generalize nmo (s.extract (p + 1).toNat s.size) = B at *
    have HR := hide (show r = (A && B) from by rw [hr]; simp [h0])
    clear hr
    cases A
    · go_enter Tryz.func217, Tryz.ntmps217
      go_wp2_with (first
        | (go_at_call 251; refine (HD.out _).mono ?_; rintro e w1 ⟨rfl, rfl⟩)
        | (go_at_call 214; refine (HA.out _).mono ?_; rintro e w1 ⟨rfl, rfl⟩))
      go_ret
      exact ⟨ret_bool HR.out.symm, rfl⟩
    · go_enter Tryz.func217, Tryz.ntmps217
      go_wp2_with fail
      refine (HD.out _).mono ?_
      rintro e w1 ⟨rfl, rfl⟩
      go_wp2_with fail
      refine (HA.out _).mono ?_
      rintro e w1 ⟨rfl, rfl⟩
      go_wp2_with fail
      refine (HB.out _).mono ?_
      rintro e w1 ⟨rfl, rfl⟩
      go_wp2
      go_ret
      exact ⟨ret_bool HR.out.symm, rfl⟩
end Go.Proofs.YtngdgogjlpjjpaeGreat

namespace Go.Proofs.YtngdgogjlpjjpaeGreat
open Go.RowKit
set_option linter.unusedVariables false
set_option linter.unusedSimpArgs false
set_option maxRecDepth 100000

theorem idx_dot (l : List UInt8) : ∀ (s : ByteArray) (k : Nat), s.data.toList.drop k = l → Lib.indexByte l (46 : Int).toNat.toUInt8 = (let d := dotFrom s l.length k; if d = -1 then -1 else d - k) := by
  induction l with
  | nil => intro s k h; rfl
  | cons b l ih =>
    intro s k h
    have hk : k < s.data.toList.length := by
      by_cases e : k < s.data.toList.length
      · exact e
      · rw [List.drop_eq_nil_of_le (by omega)] at h; cases h
    have hks : k < s.size := by simpa using hk
    have hb : s.data.toList[k]'hk = b := by
      have h2 : s.data.toList[k]? = some b := by
        have := congrArg (fun t => t[0]?) h
        simpa using this
      rw [List.getElem?_eq_getElem hk] at h2
      injection h2
    have hd : s.data.toList.drop (k + 1) = l := by
      have := congrArg List.tail h
      simpa using this
    have hbyt : byt s k = (b.toNat : Int) := by
      unfold byt
      rw [get_bang s k hks, ← hb]
      rfl
    have ih' := ih s (k + 1) hd
    simp only [Lib.indexByte, List.length_cons, dotFrom, hbyt]
    rw [ih']
    have e46 : (46 : Int).toNat.toUInt8 = 46 := rfl
    rw [e46]
    by_cases c : b = 46
    · subst c
      simp
    · have c1 : (b == 46) = false := by simpa using c
      have c2 : ¬ ((b.toNat : Int) = 46) := fun e => c (UInt8.toNat_inj.1 (by simpa using (by omega : b.toNat = 46)))
      rw [c1, if_neg c2]
      rcases dotFrom_range s l.length (k + 1) with e | e
      · simp [e]
      · have n1 : ¬ dotFrom s l.length (k + 1) = -1 := by omega
        simp only [n1, if_false, Bool.false_eq_true]
        split
        · next h => simp at h; omega
        · omega
theorem idx_dot' (s : ByteArray) : Lib.indexByte s.data.toList (46 : Int).toNat.toUInt8 = dot s := by
  have := idx_dot s.data.toList s 0 (by simp)
  rw [this]
  have e : s.data.toList.length = s.size := Array.length_toList
  unfold dot
  rw [e]
  rcases dotFrom_range s s.size 0 with h | h
  · simp [h]
  · simp only [if_neg (show ¬ dotFrom s s.size 0 = -1 by omega)]
    omega

set_option maxHeartbeats 1000000 in
theorem indexByte_any (s : ByteArray) (w : World) :
    Calls Tryz.prog 295 #[.string s, .int .u8 46] w fun e w' => e = .returned (.int .i64 (dot s)) ∧ w = w' := by
  have HD := hide (idx_dot' s)
  go_enter Tryz.func295, Tryz.ntmps295
  go_wp2
  rw [run_callFunc_extern Tryz.func299 (by kernel_rfl) (by kernel_rfl) (by kernel_rfl) (e := Extern.BytealgIndexByte.indexByte) (by kernel_rfl), Lib.run_indexByteString]
  simp only [Result.andThen]
  rw [Oper.upon_value]
  go_wp2
  go_ret
  exact ⟨ret_int HD.out, rfl⟩

set_option maxHeartbeats 1000000 in
theorem index_dot (s : ByteArray) (w : World) (hs : s.size ≤ 1048576) :
    Calls Tryz.prog 291 #[.string s, .string ⟨#[46]⟩] w fun e w' => e = .returned (.int .i64 (dot s)) ∧ w = w' := by
  have HI := hide (fun w => indexByte_any s w)
  by_cases he : (⟨#[46]⟩ : ByteArray) = s
  · subst he
    have HD : Hid (dot ⟨#[46]⟩ = 0) := by show _ = _; rfl
    clear HI
    go_enter Tryz.func291, Tryz.ntmps291
    go_wp2
    go_ret
    exact ⟨ret_int HD.out.symm, rfl⟩
  · have hne : ¬ ([46] : List UInt8) = s.toList := fun e => he (Go.WideShapes.bytes_inj (by rw [ByteArray.toList_eq] at e; exact e))
    have he' : (([46] : List UInt8) == s.toList) = false := by simpa using hne
    have he2 : ((⟨#[46]⟩ : ByteArray).toList == s.toList) = false := by rw [ByteArray.toList_eq]; exact he'
    have h46 : ∀ w : World, (Instr.index 9 (.string ⟨#[46]⟩) (.int .i64 0)).run Tryz.prog w = .ok (.int .u8 46) w := fun w => by kernel_rfl
    go_enter Tryz.func291, Tryz.ntmps291
    go_wp2_with (go_at_call 295; refine (HI.out _).mono ?_; rintro e w1 ⟨rfl, rfl⟩)
    go_ret
    exact ⟨rfl, rfl⟩

set_option maxHeartbeats 1000000 in
theorem slCut_any (s : ByteArray) (w : World) (hs : s.size ≤ 1048576) :
    Calls Tryz.prog 285 #[.string s, .string ⟨#[46]⟩] w fun e w' => e = .returned (.tuple #[.string (if 0 ≤ dot s then cutA s else s), .string (if 0 ≤ dot s then cutB s else ⟨#[]⟩), .bool (decide (0 ≤ dot s))]) ∧ Below w.heap.size w w' := by
  have HI := hide (fun w => index_dot s w hs)
  have HB := hide (Below.refl w.heap.size w)
  rcases dot_range s with h | ⟨h0, h1⟩
  · have hn : ¬ (0 ≤ dot s) := by omega
    rw [if_neg hn, if_neg hn, decide_eq_false hn]
    rw [h] at HI
    clear h hn
    go_enter Tryz.func285, Tryz.ntmps285
    go_wp2_with (go_at_call 291; refine (HI.out _).mono ?_; rintro e w1 ⟨rfl, rfl⟩)
    all_goals (try go_region)
    all_goals (try go_wp2)
    all_goals go_ret3
    all_goals exact ⟨rfl, by first | exact HB.out | exact HB.out.drew⟩
  · rw [if_pos h0, if_pos h0, decide_eq_true h0]
    unfold cutA cutB
    generalize dot s = p at *
    go_enter Tryz.func285, Tryz.ntmps285
    go_wp2_with (go_at_call 291; refine (HI.out _).mono ?_; rintro e w1 ⟨rfl, rfl⟩)
    all_goals (try go_region)
    all_goals (try go_wp2)
    all_goals go_ret3
    all_goals exact ⟨rfl, by first | exact HB.out | exact HB.out.drew⟩
end Go.Proofs.YtngdgogjlpjjpaeGreat

namespace Go.Proofs.YtngdgogjlpjjpaeGreat
open Go.RowKit
set_option linter.unusedVariables false
set_option linter.unusedSimpArgs false
set_option maxRecDepth 100000

set_option maxHeartbeats 1000000 in
theorem cut_any (s : ByteArray) (w : World) (hs : s.size ≤ 1048576) :
    Calls Tryz.prog 281 #[.string s, .string ⟨#[46]⟩] w fun e w' => e = .returned (.tuple #[.string (if 0 ≤ dot s then cutA s else s), .string (if 0 ≤ dot s then cutB s else ⟨#[]⟩), .bool (decide (0 ≤ dot s))]) ∧ Below w.heap.size w w' := by
  have HC := hide (fun w => slCut_any s w hs)
  generalize (if 0 ≤ dot s then cutA s else s) = A at *
  generalize (if 0 ≤ dot s then cutB s else ⟨#[]⟩) = B at *
  generalize decide (0 ≤ dot s) = C at *
  go_enter Tryz.func281, Tryz.ntmps281
  go_wp2_with (go_at_call 285; refine (HC.out _).mono ?_; rintro e w1 ⟨rfl, hb1⟩)
  go_ret3
  exact ⟨rfl, hb1⟩

theorem nmo_none : nmo ⟨#[]⟩ = false := rfl
/-- WHAT cutImport GIVES. -/
def cutV (s : ByteArray) : Value := if full s then .tuple #[.string (cutA s), .string (cutB s), .bool true] else .tuple #[.string ⟨#[]⟩, .string ⟨#[]⟩, .bool false]

set_option maxHeartbeats 1000000 in
theorem cutImport_any (s : ByteArray) (w : World) (hs : s.size ≤ 1048576) :
    Calls Tryz.prog 269 #[.string s] w fun e w' => e = .returned (cutV s) ∧ Below w.heap.size w w' := by
  have HC := hide (fun w => cut_any s w hs)
  obtain ⟨V, hV⟩ : ∃ V, V = cutV s := ⟨_, rfl⟩
  rw [← hV]
  unfold cutV full at hV
  have hA : (if 0 ≤ dot s then cutA s else s).size ≤ 1048576 := by split; exact cutA_size s hs; exact hs
  have hB : (if 0 ≤ dot s then cutB s else ⟨#[]⟩).size ≤ 1048576 := by split; exact cutB_size s hs; exact (by decide)
  have HA := hide (fun w => isName_any _ w hA)
  have HB := hide (fun w => isName_any _ w hB)
  have hV' : V = if nmo (if 0 ≤ dot s then cutA s else s) && nmo (if 0 ≤ dot s then cutB s else ⟨#[]⟩) then .tuple #[.string (if 0 ≤ dot s then cutA s else s), .string (if 0 ≤ dot s then cutB s else ⟨#[]⟩), .bool true] else .tuple #[.string ⟨#[]⟩, .string ⟨#[]⟩, .bool false] := by
    by_cases h : 0 ≤ dot s
    · simp only [h, if_true, decide_true, Bool.true_and] at hV ⊢
      exact hV
    · simp only [h, if_false, decide_false, Bool.false_and, nmo_none, Bool.and_false] at hV ⊢
      exact hV
  clear hV hA hB
  generalize (if 0 ≤ dot s then cutA s else s) = A at *
  generalize (if 0 ≤ dot s then cutB s else ⟨#[]⟩) = B at *
  generalize decide (0 ≤ dot s) = C at *
  generalize nmo A = a at *
  generalize nmo B = b at *
  have HV := hide hV'
  clear hV'
  cases a
  · obtain rfl : V = .tuple #[.string ⟨#[]⟩, .string ⟨#[]⟩, .bool false] := HV.out
    go_enter Tryz.func269, Tryz.ntmps269
    go_wp2_with fail
    refine (HC.out _).mono ?_
    rintro e w1 ⟨rfl, hb1⟩
    go_wp2_with fail
    refine (HA.out _).mono ?_
    rintro e w2 ⟨rfl, rfl⟩
    go_wp2
    go_ret3
    exact ⟨rfl, hb1⟩
  · cases b
    · obtain rfl : V = .tuple #[.string ⟨#[]⟩, .string ⟨#[]⟩, .bool false] := HV.out
      go_enter Tryz.func269, Tryz.ntmps269
      go_wp2_with fail
      refine (HC.out _).mono ?_
      rintro e w1 ⟨rfl, hb1⟩
      go_wp2_with fail
      refine (HA.out _).mono ?_
      rintro e w2 ⟨rfl, rfl⟩
      go_wp2_with fail
      refine (HB.out _).mono ?_
      rintro e w2 ⟨rfl, rfl⟩
      go_wp2
      go_ret3
      exact ⟨rfl, hb1⟩
    · obtain rfl : V = .tuple #[.string A, .string B, .bool true] := HV.out
      go_enter Tryz.func269, Tryz.ntmps269
      go_wp2_with fail
      refine (HC.out _).mono ?_
      rintro e w1 ⟨rfl, hb1⟩
      go_wp2_with fail
      refine (HA.out _).mono ?_
      rintro e w2 ⟨rfl, rfl⟩
      go_wp2_with fail
      refine (HB.out _).mono ?_
      rintro e w2 ⟨rfl, rfl⟩
      go_wp2
      go_ret3
      exact ⟨rfl, hb1⟩
end Go.Proofs.YtngdgogjlpjjpaeGreat

namespace Go.Proofs.YtngdgogjlpjjpaeGreat
open Go.RowKit
set_option linter.unusedVariables false

theorem info8 : (Tryz.prog.info? 5).map (fun i => (i.zero, i.size, i.bytes)) = some (some (.int .u8 0), 1, 1) := by kernel_rfl

theorem made8 (n : Nat) : (madeCells (Value.cells (.int .u8 0)) (n * 1)) = ((List.replicate n (0:Int)).map (Value.int .u8)).toArray := by
  apply Array.ext
  · simp [size_madeCells]
  · intro i h1 h2
    simp [madeCells, Value.cells, Nat.mod_one]

theorem row_of_made {w : World} {base g n : Nat} (h : w.ownsRow base 5 1 (.slice (some ⟨g, 0, none⟩) n n) n (madeCells (Value.cells (.int .u8 0)) (n * 1)).toList) : Row8 w g (List.replicate n 0) := by
  obtain ⟨hl, h | ⟨g', cap, cur, hv, hb, hh, h1, h2, h3, h4⟩⟩ := h
  · simp at h
  · simp at hv
    obtain ⟨rfl, rfl⟩ := hv
    unfold Row8
    rw [hh]
    have e : cur.toList = (madeCells (Value.cells (.int .u8 0)) (n * 1)).toList := by
      rw [← h4, List.take_of_length_le (by simp [h3])]
    have e2 : cur = madeCells (Value.cells (.int .u8 0)) (n * 1) := Array.toList_inj.1 e
    rw [e2, made8]

theorem below_grown {w w' : World} (h : w.grownBy w' none) : Below w.heap.size w w' := (Below.refl _ _).grown h (Nat.le_refl _) (fun k hk => by cases hk)

def mok (n1 n2 n3 : Nat) : Bool := decide (n1 ≤ 16384 ∧ n2 ≤ 16384 ∧ n3 ≤ 5000)

set_option maxHeartbeats 400000 in
theorem sMemOk_any (a1 a2 a3 : Option Addr) (n1 c1 n2 c2 n3 c3 : Nat) (w : World) :
    Calls Tryz.prog 195 #[.agg #[.slice a1 n1 c1, .slice a2 n2 c2, .slice a3 n3 c3]] w fun e w' => e = .returned (.bool (mok n1 n2 n3)) ∧ Below w.heap.size w w' := by
  by_cases k1 : (n1 : Int) ≤ 16384
  all_goals by_cases k2 : (n2 : Int) ≤ 16384
  all_goals by_cases k3 : (n3 : Int) ≤ 5000
  all_goals
    obtain ⟨r, hr⟩ : ∃ r, r = mok n1 n2 n3 := ⟨_, rfl⟩
    have HR : Hid (r = mok n1 n2 n3) := hr
    rw [← hr]
    clear hr
    go_enter Tryz.func195, Tryz.ntmps195
    go_wp2
    go_ret
    refine ⟨ret_bool ?_, (Below.refl _ _).alloc (Nat.le_refl _) _⟩
    rw [HR.out]
    unfold mok
    simp
    try omega

set_option maxHeartbeats 400000 in
theorem iMemOk_any (a1 a2 a3 : Option Addr) (n1 c1 n2 c2 n3 c3 : Nat) (w : World) :
    Calls Tryz.prog 234 #[.agg #[.slice a1 n1 c1, .slice a2 n2 c2, .slice a3 n3 c3]] w fun e w' => e = .returned (.bool (mok n1 n2 n3)) ∧ Below w.heap.size w w' := by
  by_cases k1 : (n1 : Int) ≤ 16384
  all_goals by_cases k2 : (n2 : Int) ≤ 16384
  all_goals by_cases k3 : (n3 : Int) ≤ 5000
  all_goals
    obtain ⟨r, hr⟩ : ∃ r, r = mok n1 n2 n3 := ⟨_, rfl⟩
    have HR : Hid (r = mok n1 n2 n3) := hr
    rw [← hr]
    clear hr
    go_enter Tryz.func234, Tryz.ntmps234
    go_wp2
    go_ret
    refine ⟨ret_bool ?_, (Below.refl _ _).alloc (Nat.le_refl _) _⟩
    rw [HR.out]
    unfold mok
    simp
    try omega
theorem Blk.three {w : World} {g : Nat} {a b c : Value} {t : TypeId} (h : Blk w g #[a, b, c] t) :
    w.cell? ⟨g, 0, none⟩ = some a ∧ w.cell? ⟨g, 1, none⟩ = some b ∧ w.cell? ⟨g, 2, none⟩ = some c ∧ ∀ i, w.frozen? ⟨g, i, none⟩ = false :=
  ⟨by rw [h.cell]; rfl, by rw [h.cell]; rfl, by rw [h.cell]; rfl, fun i => h.frozen i⟩

end Go.Proofs.YtngdgogjlpjjpaeGreat
