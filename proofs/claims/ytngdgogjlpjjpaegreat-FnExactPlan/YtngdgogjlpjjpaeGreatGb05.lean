import Derived.Test.YtngdgogjlpjjpaeGreatGb04
import Derived.Laws.AppendOwnNone
import Derived.Test.YtngdgogjlpjjpaeGreatGa31
import Derived.Deep.RegionHeld3
namespace Go.Proofs.YtngdgogjlpjjpaeGreat
open Go.RowKit Classical
set_option linter.unusedVariables false
set_option linter.unusedSimpArgs false
set_option maxRecDepth 100000

theorem rs_news {w : World} {b off n cap : Nat} {rs : List Rg} (h : RS w (some ⟨b, off, none⟩) n cap rs) : ∀ j u, (flat rs)[j]? = some u → w.cell? ((⟨b, off, none⟩ : Addr).add j) = some u := by
  intro j u hj
  have hl := h.1
  have hj2 : j < (flat rs).length := by
    rcases Nat.lt_or_ge j (flat rs).length with h' | h'
    · exact h'
    · rw [List.getElem?_eq_none h'] at hj; cases hj
  rw [flat6_len] at hj2
  have hq : j / 6 < rs.length := by omega
  have hr : j % 6 < 6 := Nat.mod_lt _ (by omega)
  have e := flat6_get rs (j / 6) (j % 6) hq hr
  rw [show j / 6 * 6 + j % 6 = j by omega, hj] at e
  obtain ⟨h1, h2, h3, h4, h5, h6⟩ := h.at (j / 6) (by omega)
  rw [addr_add, show off + j = off + j / 6 * 6 + j % 6 by omega]
  rw [e]
  generalize rs.getD (j / 6) z6 = G at *
  generalize j / 6 = q at *
  have c : j % 6 = 0 ∨ j % 6 = 1 ∨ j % 6 = 2 ∨ j % 6 = 3 ∨ j % 6 = 4 ∨ j % 6 = 5 := by omega
  rcases c with c | c | c | c | c | c <;> rw [c]
  · exact h1
  · exact h2
  · exact h3
  · exact h4
  · exact h5
  · exact h6
theorem flat6_one (rs : List Rg) : ∀ u ∈ flat rs, u.oneCell' = true := by
  intro u hu
  simp only [flat, List.mem_flatMap] at hu
  obtain ⟨g, _, hg⟩ := hu
  exact one6 g u hg
theorem flat_app (xs ys : List Rg) : flat (xs ++ ys) = flat xs ++ flat ys := by simp [flat]
/-- a span: from, size, its rights -/
abbrev Spn := Int × Int × Bool × Bool × Bool
def spR (p : Spn) : List Rg := rts p.2.2.1 p.2.2.2.1 p.2.2.2.2 (cvL p.1 p.2.1)
def zSp : Spn := (0, 0, false, false, false)
def At5 (w : World) (b o : Nat) (p : Spn) : Prop :=
  w.cell? ⟨b, o, none⟩ = some (.int .i64 p.1) ∧ w.cell? ⟨b, o + 1, none⟩ = some (.int .i64 p.2.1) ∧ w.cell? ⟨b, o + 2, none⟩ = some (.bool p.2.2.1) ∧
  w.cell? ⟨b, o + 3, none⟩ = some (.bool p.2.2.2.1) ∧ w.cell? ⟨b, o + 4, none⟩ = some (.bool p.2.2.2.2)
theorem At5.below {w w' : World} {b o : Nat} {p : Spn} (h : At5 w b o p) (hb : Below w.heap.size w w') : At5 w' b o p := by
  obtain ⟨h1, h2, h3, h4, h5⟩ := h
  have hl : b < w.heap.size := World.block_lt_of_cell? w _ h1
  unfold At5
  rw [hb.cell (p := ⟨b, o, none⟩) hl, hb.cell (p := ⟨b, o + 1, none⟩) hl, hb.cell (p := ⟨b, o + 2, none⟩) hl, hb.cell (p := ⟨b, o + 3, none⟩) hl, hb.cell (p := ⟨b, o + 4, none⟩) hl]
  exact ⟨h1, h2, h3, h4, h5⟩
theorem spR_len (p : Spn) : (spR p).length ≤ 8192 := by unfold spR; rw [rts_len]; exact cvL_len _ _
theorem sps_len (ss : List Spn) : (ss.flatMap spR).length ≤ 8192 * ss.length := by
  induction ss with
  | nil => simp
  | cons p ss ih => have := spR_len p; simp only [List.flatMap_cons, List.length_append, List.length_cons]; omega
theorem sps_step (ss : List Spn) (k : Nat) (h : k < ss.length) : (ss.take (k + 1)).flatMap spR = (ss.take k).flatMap spR ++ spR (ss.getD k zSp) := by
  rw [List.take_add_one, List.flatMap_append]
  congr 1
  simp [List.getD_eq_getElem?_getD, h]

set_option maxHeartbeats 2000000 in
theorem joined_any (b off n cap : Nat) (ss : List Spn) (w : World) (hn : ss.length = n) (hn4 : n ≤ 4) (hw : ∀ i, i < n → wfi (ss.getD i zSp).1 ∧ wfi (ss.getD i zSp).2.1) (h : ∀ i, i < n → At5 w b (off + i * 5) (ss.getD i zSp)) :
    Calls Tryz.prog 184 #[.slice (some ⟨b, off, none⟩) n cap] w fun e w' => ∃ A m cap', e = .returned (.slice A m cap') ∧ m = (ss.flatMap spR).length ∧ ORg w' w.heap.size (.slice A m cap') (ss.flatMap spR) ∧ Below w.heap.size w w' := by
  obtain ⟨i0, hi, hz0, hz1, hz2⟩ := info_parts infoR
  have HA := hide h
  have HW := hide hw
  have HN := hide hn
  clear h hw hn
  go_enter Tryz.func184, Tryz.ntmps184
  go_wp2_with fail
  go_loopw [3, 8] (fun o i wr => ∃ (A : Option Addr) (m cap' k : Nat), k ≤ n ∧ o = .slice A m cap' ∧ i = .int .i64 k ∧ ORg wr w.heap.size (.slice A m cap') ((ss.take k).flatMap spR) ∧ Below w.heap.size w wr) (fun _ i _ => n - (intOf i).toNat)
  case atStart => exact ⟨none, 0, 0, 0, Nat.zero_le _, rfl, rfl, org_nil _ _, Below.refl _ _⟩
  case round =>
    obtain ⟨A, m, cap', k, hk, rfl, rfl, hO, hB⟩ := hrel
    by_cases hlt : k < n
    · have hlt' : (k : Int) < (n : Int) := by omega
      obtain ⟨p0, p1, p2, p3, p4⟩ := (HA.out k hlt).below hB
      have HT := hide (sps_step ss k (by rw [HN.out]; exact hlt))
      have hww := HW.out k hlt
      generalize ss.getD k zSp = G at *
      obtain ⟨f, s, r, x, y⟩ := G
      obtain ⟨V, hV⟩ : ∃ V, V = wr.alloc (.cells #[.int .i64 f, .int .i64 s, .bool r, .bool x, .bool y] 232) := ⟨_, rfl⟩
      have KV : Blk V wr.heap.size #[.int .i64 f, .int .i64 s, .bool r, .bool x, .bool y] 232 := by rw [hV]; exact Blk.new _ _ _
      have BV : Below wr.heap.size wr V := by rw [hV]; exact (Below.refl _ _).alloc (Nat.le_refl _) _
      have e0 : V.cell? ⟨wr.heap.size, 0, none⟩ = some (.int .i64 f) := KV.cell 0
      have e1 : V.cell? ⟨wr.heap.size, 1, none⟩ = some (.int .i64 s) := KV.cell 1
      have e2 : V.cell? ⟨wr.heap.size, 2, none⟩ = some (.bool r) := KV.cell 2
      have e3 : V.cell? ⟨wr.heap.size, 3, none⟩ = some (.bool x) := KV.cell 3
      have e4 : V.cell? ⟨wr.heap.size, 4, none⟩ = some (.bool y) := KV.cell 4
      have HR := hide (regions_any f s r x y V hww.1 hww.2)
      have HO := hide (turn_or' (turn_below BV) hO (fun _ _ h => h))
      have HML := hide (or_rs hO).1
      have HMX := hide (show m ≤ 32768 by have h1 := sps_len (ss.take k); rw [(or_rs hO).1, List.length_take, HN.out] at h1; omega)
      have HLE := hide (or_lt hO)
      have HBV := hide (hB.trans (BV.mono hB.size))
      have HSV := hide (show w.heap.size ≤ V.heap.size from Nat.le_trans hB.size BV.size)
      have HV := hide hV
      have HGE := hide (fun j hj => or_rowle hO j hj)
      clear hV KV BV hO hB hww
      go_wp2_with (rw [← HV.out])
      refine HR.out.mono ?_
      rintro e w3 ⟨X, q, qc, rfl, hX, hnil, hB3⟩
      have HL3 := hide (show q ≤ 8192 by have h1 := spR_len (f, s, r, x, y); have h2 := hX.1; unfold spR at h1; simp only at h1; omega)
      have HO3 := hide (turn_or' (turn_below hB3) HO.out (fun _ _ h => h))
      have HB4 := hide (HBV.out.trans (hB3.mono HSV.out))
      have HSZ := hide (show w.heap.size ≤ w3.heap.size from Nat.le_trans HSV.out hB3.size)
      have HX := hide hX
      have HNIL := hide hnil
      clear hX hnil hB3
      have HOW := hide (show w3.ownsRow w.heap.size 158 6 (.slice A m cap') m (flat ((ss.take k).flatMap spR)) from by have := HO3.out.1; rwa [HML.out] at this)
      have HSP := hide (show spR (f, s, r, x, y) = rts r x y (cvL f s) from rfl)
      have HWF := hide HX.out.2.2.1
      obtain ⟨M, hM⟩ : ∃ M, M = rts r x y (cvL f s) := ⟨_, rfl⟩
      rw [← hM] at HX HSP HWF
      have HLEN := hide (show (flat M).length = q * 6 by rw [flat6_len, HX.out.1])
      have HONE := hide (flat6_one M)
      clear hM
      match X with
      | none =>
        obtain ⟨rfl, rfl⟩ := HNIL.out rfl
        go_wp2_with (at_builtin; refine wpList_append_own_none rfl _ _ 68 rfl w.heap.size 158 i0 6 Tryz.underlying68 hi (.slice A m cap') m (flat ((ss.take k).flatMap spR)) rfl HOW.out rfl ?_)
        refine ⟨⟨A, m, cap', k + 1, by omega, rfl, by go_num, ?_, HB4.out⟩, by simp [intOf]; omega⟩
        rw [HT.out, HSP.out, List.eq_nil_of_length_eq_zero HX.out.1, List.append_nil]
        exact HO3.out
      | some ad =>
        have HNEWS := hide (show ∀ j u, (flat M)[j]? = some u → w3.cell? (ad.add j) = some u from by
          by_cases hq : q = 0
          · have e : M = [] := List.eq_nil_of_length_eq_zero (by rw [HX.out.1]; exact hq)
            rw [e]; intro j u hj; simp [flat] at hj
          · obtain ⟨b', off', he⟩ := HX.out.some hq
            injection he with he
            subst he
            exact rs_news HX.out)
        go_wp2_with (at_builtin; refine wpList_append_own _ rfl _ _ 68 rfl w.heap.size 158 i0 (.agg #[.int .i64 0, .int .i64 0, .int .i64 0, .bool false, .bool false, .bool false]) 6 32 Tryz.underlying68 hi hz0 hz1 hz2 rfl (by decide) (.slice A m cap') m (flat ((ss.take k).flatMap spR)) rfl HOW.out ad q qc (flat M) rfl HLEN.out HNEWS.out HONE.out (by have := HMX.out; have := HL3.out; unfold maxLen; omega) (by have := HMX.out; have := HL3.out; omega) HSZ.out ?_; intro v' w4 hown4 hgr4 _; have HP := hide (And.intro hown4 hgr4); clear hown4 hgr4; obtain ⟨A2, cap2, he⟩ := or_shape HP.out.1; subst he)
        refine ⟨⟨A2, m + q, cap2, k + 1, by omega, rfl, by go_num, ?_, below_turn HB4.out (grown_turn HP.out.2) (fun j hj => HGE.out j hj) HSZ.out⟩, by simp [intOf]; omega⟩
        rw [HT.out, HSP.out]
        refine ⟨?_, fun y hy => ?_⟩
        · rw [List.length_append, HML.out, HX.out.1, flat_app]
          exact HP.out.1
        · rcases List.mem_append.1 hy with hy | hy
          · exact HO3.out.2 y hy
          · exact HWF.out y hy
    · have HE := hide (show k = n by omega)
      have HF := hide (And.intro hO hB)
      clear hO hB
      go_wp2
      go_ret
      have h1 := HF.out.1
      rw [List.take_of_length_le (by rw [HN.out, HE.out]; exact Nat.le_refl _)] at h1
      exact ⟨A, m, cap', rfl, (or_rs h1).1.symm, h1, HF.out.2⟩
end Go.Proofs.YtngdgogjlpjjpaeGreat

namespace Go.Proofs.YtngdgogjlpjjpaeGreat
open Go.RowKit Classical
set_option linter.unusedVariables false
set_option linter.unusedSimpArgs false
set_option maxRecDepth 100000

set_option maxHeartbeats 1000000 in
theorem stackEnd_any (L : Lay) (a0 : Option Addr) (c0 : Nat) (xs : List PB) (a2 : Option Addr) (c2 : Nat) (a5 : Option Addr) (c5 : Nat) (ts : List TB) (w : World) (h : LyT w L a0 c0 xs a2 c2 a5 c5 ts) :
    Calls Tryz.prog 185 #[.agg #[.slice a0 xs.length c0, .int .i64 L.stack, .slice a2 L.slots.length c2, .int .i64 L.flash, .int .i64 L.ram, .slice a5 ts.length c5]] w fun e w' => e = .returned (.int .i64 (endOf L)) ∧ Below w.heap.size w w' := by
  have HB := hide (show Below w.heap.size w (w.alloc (.cells #[.slice a0 xs.length c0, .int .i64 L.stack, .slice a2 L.slots.length c2, .int .i64 L.flash, .int .i64 L.ram, .slice a5 ts.length c5] 36)) from (Below.refl _ _).alloc (Nat.le_refl _) _)
  have hs := h.s.below HB.out
  have hmx := h.s.2.1
  unfold maxLen at hmx
  unfold endOf
  by_cases c : L.slots = []
  · rw [if_pos c]
    have hl : L.slots.length = 0 := by rw [c]; rfl
    rw [hl]
    rw [hl] at HB
    go_enter Tryz.func185, Tryz.ntmps185
    go_wp2
    go_ret
    exact ⟨rfl, HB.out⟩
  · rw [if_neg c]
    have hl : 0 < L.slots.length := List.length_pos_iff.2 c
    have hl' : (0 : Int) < (L.slots.length : Int) := by omega
    obtain ⟨b, off, rfl, hc⟩ := hs.2.2.2.1 (by omega)
    have q := hc 0 hl
    rw [Nat.add_zero] at q
    generalize L.slots.length = n at *
    generalize L.slots.getD 0 0 = z at *
    clear hs hc c
    go_enter Tryz.func185, Tryz.ntmps185
    go_wp2
    go_ret
    exact ⟨rfl, HB.out⟩

/-- the number of words of a piece of modules; -1 where there is none -/
def pcm (ms : List Md) (m b : Int) : Int := if 0 ≤ m ∧ m < (ms.length : Int) then pcn (ms.getD m.toNat zMd).tn (ms.getD m.toNat zMd).bn (ms.getD m.toNat zMd).bl b else -1
set_option maxHeartbeats 1000000 in
theorem l6There_any (a : Option Addr) (n cap : Nat) (ms : List Md) (m b : Int) (w : World) (h : MS w a n cap ms) :
    Calls Tryz.prog 98 #[.slice a n cap, .int .i64 m, .int .i64 b] w fun e w' => e = .returned (.bool (decide (0 ≤ pcm ms m b))) ∧ Below w.heap.size w w' := by
  have hn := h.1
  have hm := h.2.1
  unfold maxLen at hm
  have HB := hide (Below.refl w.heap.size w)
  by_cases c1 : m < 0
  · have HP := hide (show decide (0 ≤ pcm ms m b) = false by unfold pcm; rw [if_neg (by omega)]; rfl)
    rw [HP.out]
    clear hn
    go_enter Tryz.func98, Tryz.ntmps98
    go_wp2
    go_ret
    exact ⟨rfl, HB.out⟩
  · by_cases c2 : (n : Int) ≤ m
    · have HP := hide (show decide (0 ≤ pcm ms m b) = false by unfold pcm; rw [if_neg (by omega)]; rfl)
      rw [HP.out]
      clear hn
      go_enter Tryz.func98, Tryz.ntmps98
      go_wp2
      go_ret
      exact ⟨rfl, HB.out⟩
    · have HP := hide (show pcm ms m b = pcn (ms.getD m.toNat zMd).tn (ms.getD m.toNat zMd).bn (ms.getD m.toNat zMd).bl b by unfold pcm; rw [if_pos (by omega)])
      rw [HP.out]
      clear HP
      obtain ⟨g, off, rfl, q0, q1, q2, q3, q4, q5, q6, q7⟩ := h.at m.toNat (by omega)
      have hmt := h.2.2.2.1 m.toNat (by omega)
      generalize ms.getD m.toNat zMd = M at *
      have HC := hide (l4Piece_any M.nm M.ta M.tn M.tc M.ba M.bn M.bc M.bl (.slice M.da M.dn M.dc) (.slice M.ra M.rn M.rc) (.slice M.ia M.im M.ic) (.slice M.ea M.en M.ec) M.bss b w hmt.t.2.1 hmt.b)
      have c1' : 0 ≤ m := by omega
      have c2' : m < (n : Int) := by omega
      clear hn hmt h
      go_enter Tryz.func98, Tryz.ntmps98
      go_wp2_with fail
      refine HC.out.mono ?_
      rintro e w' ⟨xa, xn, xc, ok, rfl, ho, _, _, hB⟩
      have HO := hide ho
      clear ho
      go_wp2
      go_ret
      exact ⟨ret_bool HO.out, hB⟩
set_option maxHeartbeats 1000000 in
theorem isPiece_any (a : Option Addr) (n cap : Nat) (ms : List Md) (m b : Int) (w : World) (h : MS w a n cap ms) :
    Calls Tryz.prog 99 #[.slice a n cap, .int .i64 m, .int .i64 b] w fun e w' => e = .returned (.bool (decide (0 ≤ pcm ms m b))) ∧ Below w.heap.size w w' := by
  have hn := h.1
  have hm := h.2.1
  unfold maxLen at hm
  have HB := hide (Below.refl w.heap.size w)
  by_cases c1 : m < 0
  · have HP := hide (show decide (0 ≤ pcm ms m b) = false by unfold pcm; rw [if_neg (by omega)]; rfl)
    rw [HP.out]
    clear hn
    have HU := hide (isUpTo_any m ((n : Int) - 1))
    go_enter Tryz.func99, Tryz.ntmps99
    go_wp2_with (go_at_call 165; refine (HU.out _).mono ?_; rintro e w2 ⟨rfl, rfl⟩; rw [decide_eq_false (by omega)])
    go_ret
    exact ⟨rfl, HB.out⟩
  · by_cases c2 : (n : Int) ≤ m
    · have HP := hide (show decide (0 ≤ pcm ms m b) = false by unfold pcm; rw [if_neg (by omega)]; rfl)
      rw [HP.out]
      clear hn
      have HU := hide (isUpTo_any m ((n : Int) - 1))
      go_enter Tryz.func99, Tryz.ntmps99
      go_wp2_with (go_at_call 165; refine (HU.out _).mono ?_; rintro e w2 ⟨rfl, rfl⟩; rw [decide_eq_false (by omega)])
      go_ret
      exact ⟨rfl, HB.out⟩
    · have HP := hide (show pcm ms m b = pcn (ms.getD m.toNat zMd).tn (ms.getD m.toNat zMd).bn (ms.getD m.toNat zMd).bl b by unfold pcm; rw [if_pos (by omega)])
      rw [HP.out]
      clear HP
      obtain ⟨g, off, rfl, q0, q1, q2, q3, q4, q5, q6, q7⟩ := h.at m.toNat (by omega)
      have hmt := h.2.2.2.1 m.toNat (by omega)
      generalize ms.getD m.toNat zMd = M at *
      have HC := hide (pieceOf_any M.nm M.ta M.tn M.tc M.ba M.bn M.bc M.bl (.slice M.da M.dn M.dc) (.slice M.ra M.rn M.rc) (.slice M.ia M.im M.ic) (.slice M.ea M.en M.ec) M.bss b w hmt.t.2.1 hmt.b)
      have c1' : 0 ≤ m := by omega
      have c2' : m < (n : Int) := by omega
      clear hn hmt h
      have HU := hide (isUpTo_any m ((n : Int) - 1))
      go_enter Tryz.func99, Tryz.ntmps99
      go_wp2_with (go_at_call 165; refine (HU.out _).mono ?_; rintro e w2 ⟨rfl, rfl⟩; rw [decide_eq_true (by omega)])
      refine HC.out.mono ?_
      rintro e w' ⟨xa, xn, xc, ok, rfl, ho, _, _, hB⟩
      have HO := hide ho
      clear ho
      go_wp2
      go_ret
      exact ⟨ret_bool HO.out, hB⟩
end Go.Proofs.YtngdgogjlpjjpaeGreat

namespace Go.Proofs.YtngdgogjlpjjpaeGreat
open Go.RowKit Classical
set_option linter.unusedVariables false
set_option linter.unusedSimpArgs false
set_option maxRecDepth 100000

/-- the address where a piece is executed -/
def orgn (L : Lay) (P : PB) (b s : Int) : Int := if b = -1 then P.1.text else if s = -1 then P.1.banks.getD b.toNat 0 else L.slots.getD s.toNat 0

set_option maxHeartbeats 2000000 in
theorem originOf_any (L : Lay) (a0 : Option Addr) (c0 : Nat) (xs : List PB) (a2 : Option Addr) (c2 : Nat) (a5 : Option Addr) (c5 : Nat) (ts : List TB) (m b at' s : Int) (w : World) (h : LyT w L a0 c0 xs a2 c2 a5 c5 ts)
    (hm0 : 0 ≤ m) (hm1 : m < (xs.length : Int)) (hb : b = -1 ∨ (0 ≤ b ∧ b < ((xs.getD m.toNat zPB).1.banks.length : Int))) (hs : s = -1 ∨ (b ≠ -1 ∧ 0 ≤ s ∧ s < (L.slots.length : Int))) :
    Calls Tryz.prog 186 #[.agg #[.slice a0 xs.length c0, .int .i64 L.stack, .slice a2 L.slots.length c2, .int .i64 L.flash, .int .i64 L.ram, .slice a5 ts.length c5], .agg #[.int .i64 m, .int .i64 b, .int .i64 at'], .int .i64 s] w fun e w' => e = .returned (.int .i64 (orgn L (xs.getD m.toNat zPB) b s)) ∧ Below w.heap.size w w' := by
  obtain ⟨W, hW⟩ : ∃ W, W = (w.alloc (.cells #[.slice a0 xs.length c0, .int .i64 L.stack, .slice a2 L.slots.length c2, .int .i64 L.flash, .int .i64 L.ram, .slice a5 ts.length c5] 36)).alloc (.cells #[.int .i64 m, .int .i64 b, .int .i64 at'] 71) := ⟨_, rfl⟩
  have hB : Below w.heap.size w W := by rw [hW]; exact ((Below.refl _ _).alloc (Nat.le_refl _) _).alloc (by simp) _
  have HB := hide hB
  have h1 := h.below hB
  have k0 : Blk W w.heap.size #[.slice a0 xs.length c0, .int .i64 L.stack, .slice a2 L.slots.length c2, .int .i64 L.flash, .int .i64 L.ram, .slice a5 ts.length c5] 36 := by rw [hW]; exact (Blk.new w _ _).alloc _
  have k1 : Blk W (w.heap.size + 1) #[.int .i64 m, .int .i64 b, .int .i64 at'] 71 := by rw [hW]; have := Blk.new (w.alloc (.cells #[.slice a0 xs.length c0, .int .i64 L.stack, .slice a2 L.slots.length c2, .int .i64 L.flash, .int .i64 L.ram, .slice a5 ts.length c5] 36)) #[.int .i64 m, .int .i64 b, .int .i64 at'] 71; simpa using this
  have hz : W.heap.size = w.heap.size + 1 + 1 := by rw [hW]; simp
  have HZ := hide hz
  clear hz
  have d0 : W.cell? ⟨w.heap.size, 0, none⟩ = some (.slice a0 xs.length c0) := k0.cell 0
  have d2 : W.cell? ⟨w.heap.size, 2, none⟩ = some (.slice a2 L.slots.length c2) := k0.cell 2
  have t0 : W.cell? ⟨w.heap.size + 1, 0, none⟩ = some (.int .i64 m) := k1.cell 0
  have t1 : W.cell? ⟨w.heap.size + 1, 1, none⟩ = some (.int .i64 b) := k1.cell 1
  obtain ⟨g, off, rfl, q0, q1, q2, q3⟩ := h1.p.at m.toNat (by omega)
  have hbk := h1.p.2.2.2.1 m.toNat (by omega)
  have hsl := h1.s
  have hmx := h1.p.2.1
  have hmy := hsl.2.1
  have hmz := hbk.2.1
  unfold maxLen at hmx hmy hmz
  unfold svP at q1
  generalize xs.getD m.toNat zPB = P at *
  have HW := hide hW
  clear hW hB k0 k1 h1 h
  rcases hb with rfl | ⟨hb0, hb1⟩
  · obtain rfl : s = -1 := by rcases hs with h | h; exact h; exact absurd rfl h.1
    have HO := hide (show orgn L P (-1) (-1) = P.1.text from rfl)
    rw [HO.out]
    clear hs hbk hsl
    generalize P.1.text = x at *
    generalize xs.length = n at *
    generalize L.slots.length = l at *
    go_enter Tryz.func186, Tryz.ntmps186
    go_wp2_with (rw [← HW.out])
    go_ret
    exact ⟨rfl, (by first | exact HB.out | exact HB.out.drew)⟩
  · have hb2 : ¬ b = -1 := by omega
    have hb3 : (b == -1) = false := by simpa using hb2
    rcases hs with rfl | ⟨_, hs0, hs1⟩
    · have HO := hide (show orgn L P b (-1) = P.1.banks.getD b.toNat 0 by unfold orgn; rw [if_neg hb2, if_pos rfl])
      rw [HO.out]
      obtain ⟨u, v, e, hc⟩ := hbk.2.2.2.1 (by omega)
      have qq := hc b.toNat (by omega)
      rw [e] at q1
      clear hbk hsl e hc HO
      generalize P.1.banks.getD b.toNat 0 = x at *
      generalize P.1.banks.length = y at *
      generalize xs.length = n at *
      generalize L.slots.length = l at *
      go_enter Tryz.func186, Tryz.ntmps186
      go_wp2_with (rw [← HW.out])
      go_region_held3 (fun w' => w'.cell? ⟨w.heap.size, 0, none⟩ = some (.slice (some ⟨g, off, none⟩) n c0) ∧ w'.cell? ⟨w.heap.size + 1, 0, none⟩ = some (.int .i64 m) ∧ w'.cell? ⟨w.heap.size + 1, 1, none⟩ = some (.int .i64 b) ∧ w'.cell? ⟨g, off + m.toNat * 4 + 1, none⟩ = some (.slice (some ⟨u, v, none⟩) y P.2.2) ∧ w'.cell? ⟨u, v + b.toNat, none⟩ = some (.int .i64 x)) (go_keep) (fail)
      go_wp2
      go_ret
      exact ⟨rfl, (by first | exact HB.out | exact HB.out.drew)⟩
    · have hs2 : ¬ s = -1 := by omega
      have hs3 : (s == -1) = false := by simpa using hs2
      have HO := hide (show orgn L P b s = L.slots.getD s.toNat 0 by unfold orgn; rw [if_neg hb2, if_neg hs2])
      rw [HO.out]
      obtain ⟨u, v, e, hc⟩ := hsl.2.2.2.1 (by omega)
      have qq := hc s.toNat (by omega)
      rw [e] at d2
      clear hbk hsl e hc HO
      generalize L.slots.getD s.toNat 0 = x at *
      generalize P.1.banks.length = y at *
      generalize xs.length = n at *
      generalize L.slots.length = l at *
      go_enter Tryz.func186, Tryz.ntmps186
      go_wp2_with (rw [← HW.out])
      go_ret
      exact ⟨rfl, (by first | exact HB.out | exact HB.out.drew)⟩
end Go.Proofs.YtngdgogjlpjjpaeGreat

namespace Go.Proofs.YtngdgogjlpjjpaeGreat
open Go.RowKit Classical
set_option linter.unusedVariables false
set_option linter.unusedSimpArgs false
set_option maxRecDepth 100000


set_option maxHeartbeats 2000000 in
theorem l6Origin_any (L : Lay) (a0 : Option Addr) (c0 : Nat) (xs : List PB) (a2 : Option Addr) (c2 : Nat) (a5 : Option Addr) (c5 : Nat) (ts : List TB) (m b at' s : Int) (w : World) (h : LyT w L a0 c0 xs a2 c2 a5 c5 ts)
    (hm0 : 0 ≤ m) (hm1 : m < (xs.length : Int)) (hb : b = -1 ∨ (0 ≤ b ∧ b < ((xs.getD m.toNat zPB).1.banks.length : Int))) (hs : s = -1 ∨ (b ≠ -1 ∧ 0 ≤ s ∧ s < (L.slots.length : Int))) :
    Calls Tryz.prog 135 #[.agg #[.slice a0 xs.length c0, .int .i64 L.stack, .slice a2 L.slots.length c2, .int .i64 L.flash, .int .i64 L.ram, .slice a5 ts.length c5], .agg #[.int .i64 m, .int .i64 b, .int .i64 at'], .int .i64 s] w fun e w' => e = .returned (.int .i64 (orgn L (xs.getD m.toNat zPB) b s)) ∧ Below w.heap.size w w' := by
  obtain ⟨W, hW⟩ : ∃ W, W = (w.alloc (.cells #[.slice a0 xs.length c0, .int .i64 L.stack, .slice a2 L.slots.length c2, .int .i64 L.flash, .int .i64 L.ram, .slice a5 ts.length c5] 36)).alloc (.cells #[.int .i64 m, .int .i64 b, .int .i64 at'] 71) := ⟨_, rfl⟩
  have hB : Below w.heap.size w W := by rw [hW]; exact ((Below.refl _ _).alloc (Nat.le_refl _) _).alloc (by simp) _
  have HB := hide hB
  have h1 := h.below hB
  have k0 : Blk W w.heap.size #[.slice a0 xs.length c0, .int .i64 L.stack, .slice a2 L.slots.length c2, .int .i64 L.flash, .int .i64 L.ram, .slice a5 ts.length c5] 36 := by rw [hW]; exact (Blk.new w _ _).alloc _
  have k1 : Blk W (w.heap.size + 1) #[.int .i64 m, .int .i64 b, .int .i64 at'] 71 := by rw [hW]; have := Blk.new (w.alloc (.cells #[.slice a0 xs.length c0, .int .i64 L.stack, .slice a2 L.slots.length c2, .int .i64 L.flash, .int .i64 L.ram, .slice a5 ts.length c5] 36)) #[.int .i64 m, .int .i64 b, .int .i64 at'] 71; simpa using this
  have hz : W.heap.size = w.heap.size + 1 + 1 := by rw [hW]; simp
  have HZ := hide hz
  clear hz
  have d0 : W.cell? ⟨w.heap.size, 0, none⟩ = some (.slice a0 xs.length c0) := k0.cell 0
  have d2 : W.cell? ⟨w.heap.size, 2, none⟩ = some (.slice a2 L.slots.length c2) := k0.cell 2
  have t0 : W.cell? ⟨w.heap.size + 1, 0, none⟩ = some (.int .i64 m) := k1.cell 0
  have t1 : W.cell? ⟨w.heap.size + 1, 1, none⟩ = some (.int .i64 b) := k1.cell 1
  obtain ⟨g, off, rfl, q0, q1, q2, q3⟩ := h1.p.at m.toNat (by omega)
  have hbk := h1.p.2.2.2.1 m.toNat (by omega)
  have hsl := h1.s
  have hmx := h1.p.2.1
  have hmy := hsl.2.1
  have hmz := hbk.2.1
  unfold maxLen at hmx hmy hmz
  unfold svP at q1
  generalize xs.getD m.toNat zPB = P at *
  have kA := k0.alloc (.cells #[.int .i64 P.1.text, .slice P.2.1 P.1.banks.length P.2.2, .int .i64 P.1.data, .int .i64 P.1.size] 138)
  have kB := k1.alloc (.cells #[.int .i64 P.1.text, .slice P.2.1 P.1.banks.length P.2.2, .int .i64 P.1.data, .int .i64 P.1.size] 138)
  have kC := Blk.new W #[.int .i64 P.1.text, .slice P.2.1 P.1.banks.length P.2.2, .int .i64 P.1.data, .int .i64 P.1.size] 138
  have v2 : (W.alloc (.cells #[.int .i64 P.1.text, .slice P.2.1 P.1.banks.length P.2.2, .int .i64 P.1.data, .int .i64 P.1.size] 138)).cell? ⟨w.heap.size, 2, none⟩ = some (.slice a2 L.slots.length c2) := kA.cell 2
  have v1 : (W.alloc (.cells #[.int .i64 P.1.text, .slice P.2.1 P.1.banks.length P.2.2, .int .i64 P.1.data, .int .i64 P.1.size] 138)).cell? ⟨w.heap.size + 1, 1, none⟩ = some (.int .i64 b) := kB.cell 1
  have u0 : (W.alloc (.cells #[.int .i64 P.1.text, .slice P.2.1 P.1.banks.length P.2.2, .int .i64 P.1.data, .int .i64 P.1.size] 138)).cell? ⟨W.heap.size, 0, none⟩ = some (.int .i64 P.1.text) := kC.cell 0
  have u1 : (W.alloc (.cells #[.int .i64 P.1.text, .slice P.2.1 P.1.banks.length P.2.2, .int .i64 P.1.data, .int .i64 P.1.size] 138)).cell? ⟨W.heap.size, 1, none⟩ = some (.slice P.2.1 P.1.banks.length P.2.2) := kC.cell 1
  have HBV := hide (show Below W.heap.size W (W.alloc (.cells #[.int .i64 P.1.text, .slice P.2.1 P.1.banks.length P.2.2, .int .i64 P.1.data, .int .i64 P.1.size] 138)) from (Below.refl _ _).alloc (Nat.le_refl _) _)
  have HBW := hide (show Below w.heap.size w (W.alloc (.cells #[.int .i64 P.1.text, .slice P.2.1 P.1.banks.length P.2.2, .int .i64 P.1.data, .int .i64 P.1.size] 138)) from hB.alloc hB.size _)
  have HW := hide hW
  clear hW hB k0 k1 h1 h kA kB kC
  rcases hb with rfl | ⟨hb0, hb1⟩
  · obtain rfl : s = -1 := by rcases hs with h | h; exact h; exact absurd rfl h.1
    have HO := hide (show orgn L P (-1) (-1) = P.1.text from rfl)
    rw [HO.out]
    clear hs hbk hsl
    generalize P.1.text = x at *
    generalize xs.length = n at *
    generalize L.slots.length = l at *
    go_enter Tryz.func135, Tryz.ntmps135
    go_wp2_with (rw [← HW.out])
    all_goals go_ret
    all_goals exact ⟨rfl, (by first | exact HBW.out | exact HBW.out.drew | exact HB.out | exact (HB.out.alloc HB.out.size _) | exact ((HB.out.alloc HB.out.size _).setCells (by omega) _))⟩
  · have hb2 : ¬ b = -1 := by omega
    have hb3 : (b == -1) = false := by simpa using hb2
    rcases hs with rfl | ⟨_, hs0, hs1⟩
    · have HO := hide (show orgn L P b (-1) = P.1.banks.getD b.toNat 0 by unfold orgn; rw [if_neg hb2, if_pos rfl])
      rw [HO.out]
      obtain ⟨u, v, e, hc⟩ := hbk.2.2.2.1 (by omega)
      have qq := hc b.toNat (by omega)
      have qv := cell_below HBV.out qq
      rw [e] at q1
      rw [e] at u1 u0 v1 v2 qv HBW
      clear HBV
      clear hbk hsl e hc HO
      generalize P.1.banks.getD b.toNat 0 = x at *
      generalize P.1.banks.length = y at *
      generalize xs.length = n at *
      generalize L.slots.length = l at *
      go_enter Tryz.func135, Tryz.ntmps135
      go_wp2_with (rw [← HW.out])
      all_goals go_ret
      all_goals exact ⟨rfl, (by first | exact HBW.out | exact HBW.out.drew | exact HB.out | exact (HB.out.alloc HB.out.size _) | exact ((HB.out.alloc HB.out.size _).setCells (by omega) _))⟩
    · have hs2 : ¬ s = -1 := by omega
      have hs3 : (s == -1) = false := by simpa using hs2
      have HO := hide (show orgn L P b s = L.slots.getD s.toNat 0 by unfold orgn; rw [if_neg hb2, if_neg hs2])
      rw [HO.out]
      obtain ⟨u, v, e, hc⟩ := hsl.2.2.2.1 (by omega)
      have qq := hc s.toNat (by omega)
      have qv := cell_below HBV.out qq
      rw [e] at d2 v2
      clear HBV
      clear hbk hsl e hc HO
      generalize L.slots.getD s.toNat 0 = x at *
      generalize P.1.banks.length = y at *
      generalize xs.length = n at *
      generalize L.slots.length = l at *
      go_enter Tryz.func135, Tryz.ntmps135
      go_wp2_with (rw [← HW.out])
      all_goals go_ret
      all_goals exact ⟨rfl, (by first | exact HBW.out | exact HBW.out.drew | exact HB.out | exact (HB.out.alloc HB.out.size _) | exact ((HB.out.alloc HB.out.size _).setCells (by omega) _))⟩
end Go.Proofs.YtngdgogjlpjjpaeGreat
