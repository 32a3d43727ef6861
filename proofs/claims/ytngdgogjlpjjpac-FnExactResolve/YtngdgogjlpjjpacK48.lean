import Derived.Test.YtngdgogjlpjjpacK47
namespace Go.Proofs.Ytngdgogjlpjjpac
open Go.RowKit Go.Maps
set_option linter.unusedVariables false
set_option linter.unusedSimpArgs false
set_option maxRecDepth 100000

theorem rsv_none {n : Nat} {ms : List Md} {s : ByteArray} (h : rsT n ms s = none) : rsv n ms s = .tuple #[.agg #[.int .i64 0, .int .i64 0, .int .i64 0], .bool false] := by unfold rsv; rw [h]
theorem rsv_some {n : Nat} {ms : List Md} {s : ByteArray} {i k : Nat} (h : rsT n ms s = some (i, k)) : rsv n ms s = .tuple #[.agg #[.int .i64 i, .int .i64 ((ms.getD i zMd).es.getD k zE).2.1, .int .i64 ((ms.getD i zMd).es.getD k zE).2.2], .bool true] := by unfold rsv; rw [h]
theorem fst_lt (f : Nat → List UInt8) (s : List UInt8) (i : Nat) : ∀ k, fst? f s k = some i → i < k
  | 0, h => by cases h
  | k + 1, h => by
    rw [fst_succ] at h
    cases hf : fst? f s k with
    | some j => rw [hf] at h; simp at h; subst h; have := fst_lt f s j k hf; omega
    | none => rw [hf] at h; simp at h; omega
theorem lit_int {H : Type} {a b : Int} (h : (DataW.lit (.int .i64 a) : DataW H) = .lit (.int .i64 b)) : b = a := by
  injection h with h
  injection h with _ h
  exact h.symm

set_option maxHeartbeats 4000000 in
theorem iResolve_any (a : Option Addr) (n cap : Nat) (ms : List Md) (s : ByteArray) (w : World) (h : MS w a n cap ms) (hn : n ≤ 1048576) (hs : s.size ≤ 1048576) (hE : ∀ i, i < n → ES w (ms.getD i zMd).ea (ms.getD i zMd).en (ms.getD i zMd).ec (ms.getD i zMd).es ∧ (ms.getD i zMd).en ≤ 1048576) :
    Calls Try.prog 20 #[.slice a n cap, .string s] w fun e w' => e = .returned (rsv n ms s) ∧ Below w.heap.size w w' := by
  obtain ⟨W, hW⟩ : ∃ W, W = w.alloc (.cells #[.int .i64 0, .int .i64 0, .int .i64 0] 38) := ⟨_, rfl⟩
  have hB0 : Below w.heap.size w W := by rw [hW]; exact (Below.refl _ _).alloc (Nat.le_refl _) _
  have kb : Blk W w.heap.size #[.int .i64 0, .int .i64 0, .int .i64 0] 38 := by rw [hW]; exact Blk.new _ _ _
  have HW := hide hW
  clear hW
  have HC := hide (fun w => cutImport_any s w hs)
  obtain ⟨V, hV⟩ : ∃ V, V = rsv n ms s := ⟨_, rfl⟩
  rw [← hV]
  have HV := hide hV
  clear hV
  have HTF := hide (fun w h => tablesFit_any a n cap ms w h)
  have fin : ∀ (X : World) (x y z : Int), Below w.heap.size w X → Blk X w.heap.size #[.int .i64 0, .int .i64 0, .int .i64 0] 38 →
      Blk (((X.setCell ⟨w.heap.size, 0, none⟩ (.int .i64 x)).setCell ⟨w.heap.size, 1, none⟩ (.int .i64 y)).setCell ⟨w.heap.size, 2, none⟩ (.int .i64 z)) w.heap.size #[.int .i64 x, .int .i64 y, .int .i64 z] 38 ∧ Below w.heap.size w (((X.setCell ⟨w.heap.size, 0, none⟩ (.int .i64 x)).setCell ⟨w.heap.size, 1, none⟩ (.int .i64 y)).setCell ⟨w.heap.size, 2, none⟩ (.int .i64 z)) := fun X x y z hB k => by
    refine ⟨?_, ((hB.setCell (p := ⟨w.heap.size, 0, none⟩) (Nat.le_refl _) _).setCell (p := ⟨w.heap.size, 1, none⟩) (Nat.le_refl _) _).setCell (p := ⟨w.heap.size, 2, none⟩) (Nat.le_refl _) _⟩
    have := ((k.set 0 (.int .i64 x)).set 1 (.int .i64 y)).set 2 (.int .i64 z)
    simpa using this
  have FIN := hide fin
  clear fin
  cases hf : full s
  · have hr := hide (rsv_none (n := n) (ms := ms) (s := s) (by unfold rsT; rw [hf]; simp))
    unfold cutV at HC
    rw [hf] at HC
    go_enter Try.func20, Try.ntmps20
    go_wp2_with (rw [← HW.out])
    refine (HC.out _).mono ?_
    rintro e w1 ⟨rfl, hb1⟩
    have k1 := kb.below hb1
    have hB1 := hB0.trans (hb1.mono hB0.size)
    obtain ⟨k2, hB2⟩ := FIN.out w1 0 0 0 hB1 k1
    clear hb1 kb hB0
    obtain ⟨q1, q2, q3, q4⟩ := k1.three
    obtain ⟨s1, s2, s3, s4⟩ := k2.three
    clear k1 k2
    have HX := hide hB2
    clear hB2 hB1
    go_wp2
    exact bodyPost_ret (v := .tuple #[.agg #[.int .i64 0, .int .i64 0, .int .i64 0], .bool false]) (by simp [results, Try.results20, go_sem, s1, s2, s3]) rfl ⟨by rw [HV.out, hr.out], HX.out⟩
  · unfold cutV at HC
    rw [hf] at HC
    go_enter Try.func20, Try.ntmps20
    go_wp2_with (rw [← HW.out])
    refine (HC.out _).mono ?_
    rintro e w1 ⟨rfl, hb1⟩
    have k1 := kb.below hb1
    have hB1 := hB0.trans (hb1.mono hB0.size)
    clear hb1 kb hB0
    have h1 := h.below hB1
    generalize htb : tbf n ms = tb at *
    cases tb
    · have hr := hide (rsv_none (n := n) (ms := ms) (s := s) (by unfold rsT; rw [htb]; simp))
      clear htb
      go_wp2_with fail
      refine (HTF.out _ h1).mono ?_
      rintro e w2 ⟨rfl, hb2⟩
      have k2 := k1.below hb2
      have hB2 := hB1.trans (hb2.mono hB1.size)
      obtain ⟨k3, hB3⟩ := FIN.out w2 0 0 0 hB2 k2
      clear hb2 k1 hB1 h1
      obtain ⟨q1, q2, q3, q4⟩ := k2.three
      obtain ⟨s1, s2, s3, s4⟩ := k3.three
      have HX := hide hB3
      clear hB3 hB2 k2 k3
      go_wp2
      exact bodyPost_ret (v := .tuple #[.agg #[.int .i64 0, .int .i64 0, .int .i64 0], .bool false]) (by simp [results, Try.results20, go_sem, s1, s2, s3]) rfl ⟨by rw [HV.out, hr.out], HX.out⟩
    · have HT := hide (show rsT n ms s = (fst? (mdNm ms) (cutA s).data.toList n).bind fun i => (fst? (exNm (ms.getD i zMd).es) (cutB s).data.toList (ms.getD i zMd).en).map fun k => (i, k) by unfold rsT; rw [hf, htb]; simp)
      clear htb
      have HKA := hide (show keyOf Try.prog 9 (.string (cutA s)) = some (.string (cutA s).data.toList) from Go.WideMaps.keyOf_string_mk Try.underlying9 (by have := cutA_size s hs; unfold maxLen; omega))
      have HKB := hide (show keyOf Try.prog 9 (.string (cutB s)) = some (.string (cutB s).data.toList) from Go.WideMaps.keyOf_string_mk Try.underlying9 (by have := cutB_size s hs; unfold maxLen; omega))
      have HFM := hide (fun w h => firstOfM_any a n cap ms w h hn)
      have HHA := hide (fst_has (mdNm ms) (cutA s).data.toList n)
      have HAA := hide (fd_at (mdNm ms) (cutA s).data.toList (.lit (.int .i64 0)) n)
      have HIL := hide (fun i => fst_lt (mdNm ms) (cutA s).data.toList i n)
      go_wp2_with fail
      refine (HTF.out _ h1).mono ?_
      rintro e w2 ⟨rfl, hb2⟩
      have k2 := k1.below hb2
      have hB2 := hB1.trans (hb2.mono hB1.size)
      have h2 := h.below hB2
      clear hb2 k1 hB1 h1
      go_wp2_with fail
      refine (HFM.out _ h2).mono ?_
      rintro e w3 ⟨rfl, hown, hb3⟩
      have k3 := k2.below hb3
      have hB3 := hB2.trans (hb3.mono hB2.size)
      have h3 := h.below hB3
      clear hb3 k2 hB2 h2
      cases hi : fst? (mdNm ms) (cutA s).data.toList n with
      | none =>
        have hr := hide (rsv_none (n := n) (ms := ms) (s := s) (by rw [HT.out, hi]; rfl))
        have hh : has (fd (mdNm ms) n) (.string (cutA s).data.toList) = false := by rw [← HHA.out, hi]; rfl
        obtain ⟨k4, hB4⟩ := FIN.out w3 0 0 0 hB3 k3
        obtain ⟨q1, q2, q3, q4⟩ := k3.three
        obtain ⟨s1, s2, s3, s4⟩ := k4.three
        have HX := hide hB4
        clear hB4 hB3 k3 k4 h3 hi
        go_wp2_with (at_lookup; refine wpList_lookup_own_ok_int _ rfl _ _ 91 rfl 9 3 .i64 lawS Try.underlying91 Try.underlying3 (zeroI _) w2.heap.size n _ rfl hown _ _ rfl HKA.out ?_; intro c hat hwc; clear hat; rw [hh])
        exact bodyPost_ret (v := .tuple #[.agg #[.int .i64 0, .int .i64 0, .int .i64 0], .bool false]) (by simp [results, Try.results20, go_sem, s1, s2, s3]) rfl ⟨by rw [HV.out, hr.out], HX.out⟩
      | some i =>
        have hin := HIL.out i hi
        have hin' : (i : Int) < (n : Int) := by omega
        have hh : has (fd (mdNm ms) n) (.string (cutA s).data.toList) = true := by rw [← HHA.out, hi]; rfl
        have HC2 := hide (fun (c : Int) (hat : (fd (mdNm ms) n).atKey (.string (cutA s).data.toList) (.lit (.int .i64 0)) = .lit (.int .i64 c)) => show c = (i : Int) from by rw [HAA.out, hi] at hat; exact lit_int hat)
        have HT2 := hide (show rsT n ms s = (fst? (exNm (ms.getD i zMd).es) (cutB s).data.toList (ms.getD i zMd).en).map (fun k => (i, k)) by rw [HT.out, hi]; rfl)
        have HRS := hide (fun k (h : rsT n ms s = some (i, k)) => rsv_some h)
        obtain ⟨bb, off, rfl, y0, y1, y2, y3, y4, y5, y6, y7⟩ := h3.at i hin
        obtain ⟨e1, e2⟩ := hE i hin
        have e3 := e1.below hB3
        clear e1 hi HT HHA HAA HIL h3
        generalize ms.getD i zMd = m at *
        obtain ⟨nm, ta, tn, tc, tz, ba, bn, bc, bl, da, dn, dc, dz, bss, ra, rn, rc, rz, ia, im, ic, ss, ea, en, ec, es⟩ := m
        dsimp only at y0 y1 y2 y3 y4 y5 y6 y7 e2 e3 HT2 HRS
        have HFE := hide (fun w h => firstOfE_any ea en ec es w h e2)
        go_wp2_with (at_lookup; refine wpList_lookup_own_ok_int _ rfl _ _ 91 rfl 9 3 .i64 lawS Try.underlying91 Try.underlying3 (zeroI _) w2.heap.size n _ rfl hown _ _ rfl HKA.out ?_; intro c hat hwc; have hc := HC2.out c hat; clear hat hwc; subst hc; rw [hh])
        refine (HFE.out _ e3).mono ?_
        rintro e w4 ⟨rfl, hown4, hb4⟩
        have k4 := k3.below hb4
        have hB4 := hB3.trans (hb4.mono hB3.size)
        have e4 := e3.below hb4
        have y7' : w4.cell? ⟨bb, off + i * 8 + 7, none⟩ = some (.slice ea en ec) := (hb4.cell (World.block_lt_of_cell? w3 _ y7)).trans y7
        clear hb4 hB3 k3 e3 hown y0 y1 y2 y3 y4 y5 y6 y7 HC2 hh
        cases hk : fst? (exNm es) (cutB s).data.toList en with
        | none =>
          have hr := hide (rsv_none (n := n) (ms := ms) (s := s) (by rw [HT2.out, hk]; rfl))
          have hh : has (fd (exNm es) en) (.string (cutB s).data.toList) = false := by rw [← fst_has, hk]; rfl
          obtain ⟨k5, hB5⟩ := FIN.out w4 0 0 0 hB4 k4
          obtain ⟨q1, q2, q3, q4⟩ := k4.three
          obtain ⟨s1, s2, s3, s4⟩ := k5.three
          have HX := hide hB5
          clear hB4 hB5 k4 k5 hk
          go_wp2_with (at_lookup; refine wpList_lookup_own_ok_int _ rfl _ _ 91 rfl 9 3 .i64 lawS Try.underlying91 Try.underlying3 (zeroI _) w3.heap.size en _ rfl hown4 _ _ rfl HKB.out ?_; intro c hat hwc; clear hat; rw [hh])
          exact bodyPost_ret (v := .tuple #[.agg #[.int .i64 0, .int .i64 0, .int .i64 0], .bool false]) (by simp [results, Try.results20, go_sem, s1, s2, s3]) rfl ⟨by rw [HV.out, hr.out], HX.out⟩
        | some k =>
          have hkn := fst_lt (exNm es) (cutB s).data.toList k en hk
          have hkn' : (k : Int) < (en : Int) := by omega
          have hr := hide (HRS.out k (by rw [HT2.out, hk]; rfl))
          have hh : has (fd (exNm es) en) (.string (cutB s).data.toList) = true := by rw [← fst_has, hk]; rfl
          have HC2 := hide (fun (c : Int) (hat : (fd (exNm es) en).atKey (.string (cutB s).data.toList) (.lit (.int .i64 0)) = .lit (.int .i64 c)) => show c = (k : Int) from by rw [fd_at, hk] at hat; exact lit_int hat)
          obtain ⟨eb, eo, rfl⟩ := e4.addr (by omega)
          obtain ⟨x0, x1, x2⟩ := e4.at k hkn
          generalize es.getD k zE = E at *
          obtain ⟨xn, xb, xa⟩ := E
          dsimp only at x0 x1 x2 hr
          obtain ⟨k5', hB5'⟩ := FIN.out w4 i xb xa hB4 k4
          have k5 := k5'.alloc (.cells #[.string xn, .int .i64 xb, .int .i64 xa] 86)
          have hB5 := hB5'.alloc hB5'.size (.cells #[.string xn, .int .i64 xb, .int .i64 xa] 86)
          clear k5' hB5'
          have kl := k4.lt
          obtain ⟨q1, q2, q3, q4⟩ := k4.three
          obtain ⟨s1, s2, s3, s4⟩ := k5.three
          have HX := hide hB5
          clear hB4 hB5 k4 k5 hk e4
          go_wp2_with (at_lookup; refine wpList_lookup_own_ok_int _ rfl _ _ 91 rfl 9 3 .i64 lawS Try.underlying91 Try.underlying3 (zeroI _) w3.heap.size en _ rfl hown4 _ _ rfl HKB.out ?_; intro c hat hwc; have hc := HC2.out c hat; clear hat hwc; subst hc; rw [hh])
          exact bodyPost_ret (v := .tuple #[.agg #[.int .i64 i, .int .i64 xb, .int .i64 xa], .bool true]) (by simp [results, Try.results20, go_sem, s1, s2, s3]) rfl ⟨by rw [HV.out, hr.out], HX.out⟩
end Go.Proofs.Ytngdgogjlpjjpac
