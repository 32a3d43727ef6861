import Derived.Test.YtngdgogjlpjjpadP14
import Derived.Test.YtngdgogjlpjjpadP36
namespace Go.Proofs.Ytngdgogjlpjjpad
open Go.RowKit
set_option linter.unusedVariables false
set_option linter.unusedSimpArgs false
set_option maxRecDepth 100000
structure Im (w0 W0 W : World) (g mb : Nat) (mc : Array Value) (q n c : Nat) (out : List Int) : Prop where
  i : Iw w0 W g q n c out
  o : OB W w0.heap.size (.slice (some ⟨q, 0, none⟩) n c) out
  b : Blk W mb mc 29
  k : KeepT g W0 W
theorem Iw.drew {w0 W : World} {g q n c : Nat} {out : List Int} (h : Iw w0 W g q n c out) : Iw w0 W.drew g q n c out := ⟨h.box, h.bs, h.own, h.below.drew, h.lo⟩
theorem Im.drew {w0 W0 W : World} {g mb : Nat} {mc : Array Value} {q n c : Nat} {out : List Int} (h : Im w0 W0 W g mb mc q n c out) : Im w0 W0 W.drew g mb mc q n c out := ⟨h.i.drew, h.o, h.b, h.k⟩
theorem Im.ne {w0 W0 W : World} {g mb : Nat} {mc : Array Value} {q n c : Nat} {out : List Int} (h : Im w0 W0 W g mb mc q n c out) : mb ≠ g := fun e => by
  have h1 := h.b
  have h2 := h.i.box
  rw [e] at h1
  unfold Blk at h1 h2
  rw [h1] at h2
  simp at h2
theorem Im.step {w0 W0 W W' : World} {g mb : Nat} {mc : Array Value} {q n c q' n' c' : Nat} {out out' : List Int} (h : Im w0 W0 W g mb mc q n c out) (i : Iw w0 W' g q' n' c' out') (o : OB W' w0.heap.size (.slice (some ⟨q', 0, none⟩) n' c') out') (k : KeepT g W W') : Im w0 W0 W' g mb mc q' n' c' out' :=
  ⟨i, o, k.2 mb mc _ (by decide) h.ne h.b, h.k.trans k⟩
theorem Im.keep {w0 W0 W W' : World} {g mb : Nat} {mc : Array Value} {q n c : Nat} {out : List Int} (h : Im w0 W0 W g mb mc q n c out) (hb : Below W.heap.size W W') : Im w0 W0 W' g mb mc q n c out :=
  ⟨⟨h.i.box.below hb, h.i.bs.below hb, .inl (h.o.below hb), h.i.below.trans (hb.mono h.i.below.size), h.i.lo⟩, h.o.below hb, h.b.below hb, h.k.trans ⟨hb.size, fun k cs t _ _ h => h.below hb⟩⟩
theorem Im.data {w0 W0 W w' : World} {g mb : Nat} {mc : Array Value} {q n c m q' d : Nat} {out X : List Int} (h : Im w0 W0 W g mb mc q n c out) (hX : ∀ z ∈ X, 0 ≤ z ∧ z ≤ 255) (hm : X.length = m)
    (hown : w'.ownsRow w0.heap.size 5 1 (.slice (some ⟨q', 0, none⟩) (n + m) d) (n + m) (out.map (Value.int .u8) ++ X.map (Value.int .u8))) (hg : W.grownBy w' (some q)) :
    Im w0 W0 (w'.setCell ⟨g, 0, none⟩ (.slice (some ⟨q', 0, none⟩) (n + m) d)) g mb mc q' (n + m) d (out ++ X) ∧ w'.cell? ⟨g, 0, none⟩ = some (.slice (some ⟨q, 0, none⟩) n c) ∧ w'.frozen? ⟨g, 0, none⟩ = false := by
  have hln := h.o.bs.1
  have o1 : OB w' w0.heap.size (.slice (some ⟨q', 0, none⟩) (n + m) d) (out ++ X) := ob_join h.o.2 hX (by rw [hln, hm]; exact hown)
  have hb1 := grown_blk hg h.i.box (fun e => by injection e with e; exact ob_apart h.o h.i.box (by decide) e)
  have hgq := ob_apart o1 hb1 (by decide)
  have hq := (h.o.lt q rfl).1
  have o2 := ob_set_far (g := g) (i := 0) (u := .slice (some ⟨q', 0, none⟩) (n + m) d) o1 hgq
  have b2 : Blk (w'.setCell ⟨g, 0, none⟩ (.slice (some ⟨q', 0, none⟩) (n + m) d)) g #[.slice (some ⟨q', 0, none⟩) (n + m) d] 64 := by simpa using hb1.set 0 (.slice (some ⟨q', 0, none⟩) (n + m) d)
  have B2 := below_set' (i := 0) (u := .slice (some ⟨q', 0, none⟩) (n + m) d) (below_grown' h.i.below hg h.i.below.size hq) h.i.lo
  exact ⟨h.step (iw_of b2 o2 B2 h.i.lo) o2 (grown_keep hg h.o).set, by simpa using hb1.cell 0, hb1.frozen 0⟩
theorem step_im {ops : Array Oper} {o : Oper} {a : Act} {w0 W0 W : World} {g mb : Nat} {mc : Array Value} {q n c : Nat} {out X : List Int} {K : Act → World → Prop} {Q : Exit → Act → World → Prop} {E : Prop} (hE : Im w0 W0 W g mb mc q n c out) (hgd : o.guard = none) (s x : Operand)
    (ho : o.op = .call { callee := .builtin .append, args := #[s, x], argTypes := #[22, 22] }) (hs : a.eval s = .slice (some ⟨q, 0, none⟩) n c) (ad : Addr) (m cp : Nat) (hx : a.eval x = .slice (some ad) m cp) (hX : X.length = m) (hXr : ∀ z ∈ X, 0 ≤ z ∧ z ≤ 255) (hnews : ∀ j u, (X.map (Value.int .u8))[j]? = some u → W.cell? (ad.add j) = some u) (hn : 0 < n) (hm : n + m ≤ 40000)
    (h : ∀ q' d w', Im w0 W0 (w'.setCell ⟨g, 0, none⟩ (.slice (some ⟨q', 0, none⟩) (n + m) d)) g mb mc q' (n + m) d (out ++ X) → w'.cell? ⟨g, 0, none⟩ = some (.slice (some ⟨q, 0, none⟩) n c) → w'.frozen? ⟨g, 0, none⟩ = false → K (a.put o.dst (.slice (some ⟨q', 0, none⟩) (n + m) d)) w') : if Region.wanted o (yielded ops a.tmps) = true then Oper.wp Try.prog o a W K Q else E := by
  have hw : Region.wanted o (yielded ops a.tmps) = true := by simp [Region.wanted, hgd]
  rw [if_pos hw]
  obtain ⟨i0, hi, hz0, hz1, hz2⟩ := info_parts info8
  have o1 := hE.o.1
  rw [hE.o.bs.1] at o1
  refine wp_append_own W s x 22 ho w0.heap.size 5 i0 (.int .u8 0) 1 1 Try.underlying22 hi hz0 hz1 hz2 rfl (by decide) (.slice (some ⟨q, 0, none⟩) n c) n (out.map (Value.int .u8)) hs o1 ad m cp (X.map (Value.int .u8)) hx (by rw [List.length_map, hX, Nat.mul_one]) hnews (ones8 _) (by unfold maxLen; omega) (by omega) hE.i.below.size ?_
  intro v' w' hown hg _
  obtain ⟨q', d, rfl, _⟩ := World.ownsRow.form hown (by omega)
  obtain ⟨a1, a2, a3⟩ := hE.data hXr hX hown hg
  exact h q' d w' a1 a2 a3
set_option maxHeartbeats 8000000 in
theorem module_any (nm : ByteArray) (ta : Option Addr) (tn tc : Nat) (tz : List Int) (ba : Option Addr) (bn bc : Nat) (bl : List Bk) (db : Nat) (dn dc : Nat) (dz : List Int) (bss : Int) (ra : Option Addr) (rn rc : Nat) (rz : List Int) (ia : Option Addr) (im ic : Nat) (ss : List ByteArray) (ea : Option Addr) (en ec : Nat) (es : List Ex) (w W : World) (g q c : Nat)
    (h : MD w nm ta tn tc tz ba bn bc bl (some ⟨db, 0, none⟩) dn dc dz bss ra rn rc rz ia im ic ss ea en ec es) (V : Vm nm tn tz bn bl dn bss rn rz im ss en es) (hI : Iw w W g q 2 c [88, 77]) :
    Calls Try.prog 31 #[.pointer (some ⟨g, 0, none⟩), .agg #[.string nm, .slice ta tn tc, .slice ba bn bc, .slice (some ⟨db, 0, none⟩) dn dc, .int .i64 bss, .slice ra rn rc, .slice ia im ic, .slice ea en ec]] W (fun e w' => e = .returned (.tuple #[]) ∧ ∃ q n c, Iw w w' g q n c (encM nm tz bn bl dn dz bss rn rz im ss en es) ∧ OB w' w.heap.size (.slice (some ⟨q, 0, none⟩) n c) (encM nm tz bn bl dn dz bss rn rz im ss en es) ∧ KeepT g W w' ∧ n ≤ 4000) := by
  have v1 := V.n
  have v2 := V.t
  have v3 := V.b
  have v4 := V.d
  have v5 := V.s
  have v6 := V.r
  have v7 := V.i
  have v8 := V.e
  obtain ⟨mc, hmc⟩ : ∃ mc : Array Value, mc = #[.string nm, .slice ta tn tc, .slice ba bn bc, .slice (some ⟨db, 0, none⟩) dn dc, .int .i64 bss, .slice ra rn rc, .slice ia im ic, .slice ea en ec] := ⟨_, rfl⟩
  have HMC := hide hmc
  have k0 := Blk.new W #[.string nm, .slice ta tn tc, .slice ba bn bc, .slice (some ⟨db, 0, none⟩) dn dc, .int .i64 bss, .slice ra rn rc, .slice ia im ic, .slice ea en ec] 29
  have al : Below W.heap.size W (W.alloc (.cells #[.string nm, .slice ta tn tc, .slice ba bn bc, .slice (some ⟨db, 0, none⟩) dn dc, .int .i64 bss, .slice ra rn rc, .slice ia im ic, .slice ea en ec] 29)) := (Below.refl _ _).alloc (Nat.le_refl _) _
  have HBX := hide (fun (W' : World) (hb : Blk W' (W.heap.size) mc 29) => Blk.mod (show Blk W' W.heap.size #[.string nm, .slice ta tn tc, .slice ba bn bc, .slice (some ⟨db, 0, none⟩) dn dc, .int .i64 bss, .slice ra rn rc, .slice ia im ic, .slice ea en ec] 29 by rw [← HMC.out]; exact hb))
  have HK0 := hide (show Blk (W.alloc (.cells #[.string nm, .slice ta tn tc, .slice ba bn bc, .slice (some ⟨db, 0, none⟩) dn dc, .int .i64 bss, .slice ra rn rc, .slice ia im ic, .slice ea en ec] 29)) (W.heap.size) mc 29 by rw [hmc]; exact k0)
  have HI0 := hide (show Iw w (W.alloc (.cells #[.string nm, .slice ta tn tc, .slice ba bn bc, .slice (some ⟨db, 0, none⟩) dn dc, .int .i64 bss, .slice ra rn rc, .slice ia im ic, .slice ea en ec] 29)) g q 2 c [88, 77] from ⟨hI.box.below al, hI.bs.below al, hI.own.imp (fun o => o.below al) id, hI.below.trans (al.mono hI.below.size), hI.lo⟩)
  have HKK := hide (show KeepT g W (W.alloc (.cells #[.string nm, .slice ta tn tc, .slice ba bn bc, .slice (some ⟨db, 0, none⟩) dn dc, .int .i64 bss, .slice ra rn rc, .slice ia im ic, .slice ea en ec] 29)) from ⟨al.size, fun k cs t _ _ h => h.below al⟩)
  have hne : W.heap.size ≠ g := by have := hI.box.lt; omega
  obtain ⟨q0, q1, q2, q3, q4, q5, q6, q7⟩ := HBX.out _ HK0.out
  clear hmc k0 al
  go_enter Try.func31, Try.ntmps31
  go_wp2_with fail
  generalize W.alloc (.cells #[.string nm, .slice ta tn tc, .slice ba bn bc, .slice (some ⟨db, 0, none⟩) dn dc, .int .i64 bss, .slice ra rn rc, .slice ia im ic, .slice ea en ec] 29) = W1 at *
  refine (text_any w W1 g q 2 c [88, 77] nm HI0.out (by omega) (by omega) (by omega)).mono ?_
  rintro e w2 ⟨rfl, qa, ca, I2, O2, K2⟩
  have M2 : Im w W w2 g (W.heap.size) mc qa (2 + (1 + nm.size)) ca (enc0 nm) := ⟨I2, O2, K2.2 (W.heap.size) mc _ (by decide) hne HK0.out, HKK.out.trans K2⟩
  obtain ⟨n2, hn2⟩ : ∃ n2, n2 = 2 + (1 + nm.size) := ⟨_, rfl⟩
  rw [← hn2] at M2
  have hn2' : 3 ≤ n2 ∧ n2 ≤ 15 := by omega
  clear I2 O2 K2 HK0 HKK HI0 hI hn2 q0 q1 q2 q3 q4 q5 q6 q7
  obtain ⟨q0, q1, q2, q3, q4, q5, q6, q7⟩ := HBX.out _ M2.b
  go_wp2_with fail
  refine (words_any w w2 g qa n2 ca _ ta tn tc tz M2.i h.t V.tw (by omega) (by omega) (by omega)).mono ?_
  rintro e w3 ⟨rfl, qb, cb, I3, O3, K3⟩
  have M3 := M2.step I3 O3 K3
  obtain ⟨n3, hn3⟩ : ∃ n3, n3 = n2 + (2 + tn * 4) := ⟨_, rfl⟩
  rw [← hn3] at M3
  have hn3' : 3 ≤ n3 ∧ n3 ≤ 817 := by omega
  clear M2 I3 O3 K3 hn3 hn2' q0 q1 q2 q3 q4 q5 q6 q7
  obtain ⟨q0, q1, q2, q3, q4, q5, q6, q7⟩ := HBX.out _ M3.b
  go_wp2_with fail
  refine (number_any w w3 g qb n3 cb _ bn 1 M3.i (Or.inl rfl) (by omega) (by omega) (by omega) (by omega)).mono ?_
  rintro e w4 ⟨rfl, qc, cc, I4, O4, K4⟩
  have M4 : Im w W w4 g (W.heap.size) mc qc (n3 + 1) cc (enc1 nm tz bn) := M3.step I4 O4 K4
  clear M3 I4 O4 K4 q0 q1 q2 q3 q4 q5 q6 q7
  obtain ⟨q0, q1, q2, q3, q4, q5, q6, q7⟩ := HBX.out _ M4.b
  have HV := hide V
  clear V
  go_wp2_with fail
  go_loopw [28] (fun i wr => ∃ (k q n c : Nat), k ≤ bn ∧ i = .int .i64 k ∧ Im w W wr g (W.heap.size) mc q n c (enc1 nm tz bn ++ encBs bl k) ∧ 3 ≤ n ∧ n ≤ 820 + k * 300) (fun i _ => bn - (intOf i).toNat)
  case atStart => exact ⟨0, qc, n3 + 1, cc, Nat.zero_le _, rfl, by simpa [encBs] using M4, by omega, by omega⟩
  case round =>
    obtain ⟨k, q, n, c, hk, rfl, E8, hn0, hn1⟩ := hrel
    clear M4 q0 q1 q2 q3 q4 q5 q6 q7 hn3'
    by_cases hlt : k < bn
    · have hlt' : (k : Int) < (bn : Int) := by omega
      have hbk := h.b.below E8.i.below
      obtain ⟨bb, off, rfl⟩ := hbk.addr (by omega)
      have hc := hbk.at k hlt
      have hI := h.b.2.2.2.1 k hlt
      have hw := HV.out.bw k (by rw [h.b.1]; exact hlt)
      have HS := hide (show enc1 nm tz bn ++ encBs bl (k + 1) = enc1 nm tz bn ++ encBs bl k ++ encL (bl.getD k zB).2.2.2 by unfold encBs; rw [flat_succ _ bl zB k (by rw [h.b.1]; exact hlt), List.append_assoc])
      generalize enc1 nm tz bn ++ encBs bl k = out at *
      generalize bl.getD k zB = B at *
      obtain ⟨Ba, Bn, Bc, Bz⟩ := B
      dsimp only at hc hI hw HS
      have HW := hide (words_any w wr g q n c out Ba Bn Bc Bz E8.i hI hw.2 (by omega) (by omega) (by omega))
      go_wp2_with fail
      refine HW.out.mono ?_
      rintro e w5 ⟨rfl, q5, c5, I5, O5, K5⟩
      have M5 := E8.step I5 O5 K5
      rw [← HS.out] at M5
      have HM5 := hide M5
      clear M5 I5 O5 K5 E8 HW hc hbk
      go_wp2
      go_roundw
      case rel => exact ⟨k + 1, q5, n + (2 + Bn * 4), c5, by omega, by go_num, HM5.out, by omega, by omega⟩
      case measure => simp [intOf]; omega
    · obtain rfl : bn = k := by omega
      have hn8 : n ≤ 2020 := by omega
      clear hlt hk hn1
      obtain ⟨q0, q1, q2, q3, q4, q5, q6, q7⟩ := HBX.out _ E8.b
      go_wp2_with fail
      refine (number_any w wr g q n c _ dn 2 E8.i (Or.inr (Or.inl rfl)) (by omega) (by omega) (by omega) (by omega)).mono ?_
      rintro e w5 ⟨rfl, qd, cd, I5, O5, K5⟩
      have M5 := E8.step I5 O5 K5
      clear I5 O5 K5 E8 q0 q1 q2 q3 q4 q5 q6 q7
      obtain ⟨q0, q1, q2, q3, q4, q5, q6, q7⟩ := HBX.out _ M5.b
      have y0 := M5.i.box.cell 0
      simp at y0
      have HM5 := hide M5
      have HDL := hide h.d.1
      clear M5 q0 q1 q2 q4 q5 q6 q7
      go_wp2_with fail
      have HDN := hide (fun (W' : World) (hb : Below w.heap.size w W') => bs_news (h.d.below hb))
      go_region_law (first
        | (refine step_im HM5.out rfl _ _ rfl rfl ⟨db, 0, none⟩ dn dc rfl HDL.out h.d.2.2.1 (HDN.out _ HM5.out.i.below) (by omega) (by omega) ?_; intro q6 d6 w6 M6 x0 x1; have HM6 := hide M6; clear M6)
        | (refine step_im HM5.out.drew rfl _ _ rfl rfl ⟨db, 0, none⟩ dn dc rfl HDL.out h.d.2.2.1 (HDN.out _ HM5.out.drew.i.below) (by omega) (by omega) ?_; intro q6 d6 w6 M6 x0 x1; have HM6 := hide M6; clear M6))
      all_goals
        clear HM5 HDL HDN q3 y0 x0 x1
        generalize w6.setCell ⟨g, 0, none⟩ (.slice (some ⟨q6, 0, none⟩) (n + 2 + dn) d6) = w7 at *
        have M6 := HM6.out
        obtain ⟨n6, hn6⟩ : ∃ n6, n6 = n + 2 + dn := ⟨_, rfl⟩
        rw [← hn6] at M6
        have hn6' : 3 ≤ n6 ∧ n6 ≤ 2600 := by omega
        clear HM6 hn6 hn0 hn8
        obtain ⟨q0, q1, q2, q3, q4, q5, q6', q7⟩ := HBX.out _ M6.b
        go_wp2_with fail
        refine (number_any w w7 g q6 n6 d6 _ bss 2 M6.i (Or.inr (Or.inl rfl)) (by omega) (by omega) (by omega) (by omega)).mono ?_
        rintro e w8 ⟨rfl, q8, c8, I8, O8, K8⟩
        have M8 := M6.step I8 O8 K8
        clear I8 O8 K8 M6 q0 q1 q2 q3 q4 q5 q6' q7
        obtain ⟨q0, q1, q2, q3, q4, q5, q6', q7⟩ := HBX.out _ M8.b
        go_wp2_with fail
        refine (number_any w w8 g q8 (n6 + 2) c8 _ rn 1 M8.i (Or.inl rfl) (by omega) (by omega) (by omega) (by omega)).mono ?_
        rintro e w9 ⟨rfl, q9, c9, I9, O9, K9⟩
        have M9 : Im w W w9 g W.heap.size mc q9 (n6 + 2 + 1) c9 (enc2 nm tz bn bl dn dz bss rn) := M8.step I9 O9 K9
        clear I9 O9 K9 M8 q0 q1 q2 q3 q4 q5 q6' q7
        obtain ⟨q0, q1, q2, q3, q4, q5, q6', q7⟩ := HBX.out _ M9.b
        go_wp2_with fail
        go_loopw [63] (fun i wr => ∃ (k q n c : Nat), k ≤ rn ∧ i = .int .i64 k ∧ Im w W wr g W.heap.size mc q n c (enc2 nm tz bn bl dn dz bss rn ++ encW 2 rz k) ∧ 3 ≤ n ∧ n ≤ 2610 + k * 2) (fun i _ => rn - (intOf i).toNat)
        case atStart => exact ⟨0, q9, n6 + 2 + 1, c9, Nat.zero_le _, rfl, by simpa [encW] using M9, by omega, by omega⟩
        case round =>
          obtain ⟨k, q, n, c, hk, rfl, E8, hn0, hn1⟩ := hrel
          clear M9 q0 q1 q2 q3 q4 q5 q6' q7 hn6'
          by_cases hlt : k < rn
          · have hlt' : (k : Int) < (rn : Int) := by omega
            have hr := h.r.below E8.i.below
            obtain ⟨rb, off, rfl⟩ := hr.addr (by omega)
            have hc := hr.at k hlt
            have hw := HV.out.rw k hlt
            have HS := hide (show enc2 nm tz bn bl dn dz bss rn ++ encW 2 rz (k + 1) = enc2 nm tz bn bl dn dz bss rn ++ encW 2 rz k ++ encN (rz.getD k 0) 2 by rw [encW_succ 2 rz k (by rw [h.r.1]; exact hlt), List.append_assoc])
            generalize enc2 nm tz bn bl dn dz bss rn ++ encW 2 rz k = out at *
            generalize rz.getD k 0 = z at *
            have HW := hide (number_any w wr g q n c out z 2 E8.i (Or.inr (Or.inl rfl)) (by omega) (by omega) (by omega) (by omega))
            go_wp2_with fail
            refine HW.out.mono ?_
            rintro e w5 ⟨rfl, q5, c5, I5, O5, K5⟩
            have M5 := E8.step I5 O5 K5
            rw [← HS.out] at M5
            have HM5 := hide M5
            clear M5 I5 O5 K5 E8 HW hc hr
            go_wp2
            go_roundw
            case rel => exact ⟨k + 1, q5, n + 2, c5, by omega, by go_num, HM5.out, by omega, by omega⟩
            case measure => simp [intOf]; omega
          · obtain rfl : rn = k := by omega
            have hn8 : n ≤ 2650 := by omega
            clear hlt hk hn1
            obtain ⟨q0, q1, q2, q3, q4, q5, q6, q7⟩ := HBX.out _ E8.b
            go_wp2_with fail
            refine (number_any w wr g q n c _ im 1 E8.i (Or.inl rfl) (by omega) (by omega) (by omega) (by omega)).mono ?_
            rintro e w5 ⟨rfl, qd, cd, I5, O5, K5⟩
            have M5 : Im w W w5 g W.heap.size mc qd (n + 1) cd (enc3 nm tz bn bl dn dz bss rn rz im) := E8.step I5 O5 K5
            clear I5 O5 K5 E8 q0 q1 q2 q3 q4 q5 q6 q7
            obtain ⟨q0, q1, q2, q3, q4, q5, q6, q7⟩ := HBX.out _ M5.b
            go_wp2_with fail
            go_loopw [79] (fun i wr => ∃ (k q n c : Nat), k ≤ im ∧ i = .int .i64 k ∧ Im w W wr g W.heap.size mc q n c (enc3 nm tz bn bl dn dz bss rn rz im ++ encTs ss k) ∧ 3 ≤ n ∧ n ≤ 2700 + k * 26) (fun i _ => im - (intOf i).toNat)
            case atStart => exact ⟨0, qd, n + 1, cd, Nat.zero_le _, rfl, by simpa [encTs] using M5, by omega, by omega⟩
            case round =>
              obtain ⟨k, q, n, c, hk, rfl, E8, hn0, hn1⟩ := hrel
              clear M5 q0 q1 q2 q3 q4 q5 q6 q7 hn8
              by_cases hlt : k < im
              · have hlt' : (k : Int) < (im : Int) := by omega
                have hr := h.i.below E8.i.below
                obtain ⟨rb, off, rfl⟩ := hr.addr (by omega)
                have hc := hr.at k hlt
                have hw := HV.out.iw k hlt
                have HS := hide (show enc3 nm tz bn bl dn dz bss rn rz im ++ encTs ss (k + 1) = enc3 nm tz bn bl dn dz bss rn rz im ++ encTs ss k ++ encT (ss.getD k zS) by unfold encTs; rw [flat_succ _ ss zS k (by rw [h.i.1]; exact hlt), List.append_assoc])
                generalize enc3 nm tz bn bl dn dz bss rn rz im ++ encTs ss k = out at *
                generalize ss.getD k zS = z at *
                have HW := hide (text_any w wr g q n c out z E8.i (by omega) (by omega) (by omega))
                go_wp2_with fail
                refine HW.out.mono ?_
                rintro e w5 ⟨rfl, q5, c5, I5, O5, K5⟩
                have M5 := E8.step I5 O5 K5
                rw [← HS.out] at M5
                have HM5 := hide M5
                clear M5 I5 O5 K5 E8 HW hc hr
                go_wp2
                go_roundw
                case rel => exact ⟨k + 1, q5, n + (1 + z.size), c5, by omega, by go_num, HM5.out, by omega, by omega⟩
                case measure => simp [intOf]; omega
              · obtain rfl : im = k := by omega
                have hn8 : n ≤ 3200 := by omega
                clear hlt hk hn1
                obtain ⟨q0, q1, q2, q3, q4, q5, q6, q7⟩ := HBX.out _ E8.b
                go_wp2_with fail
                refine (number_any w wr g q n c _ en 1 E8.i (Or.inl rfl) (by omega) (by omega) (by omega) (by omega)).mono ?_
                rintro e w5 ⟨rfl, qd, cd, I5, O5, K5⟩
                have M5 : Im w W w5 g W.heap.size mc qd (n + 1) cd (enc4 nm tz bn bl dn dz bss rn rz im ss en) := E8.step I5 O5 K5
                clear I5 O5 K5 E8 q0 q1 q2 q3 q4 q5 q6 q7
                obtain ⟨q0, q1, q2, q3, q4, q5, q6, q7⟩ := HBX.out _ M5.b
                go_wp2_with fail
                go_loopw [95] (fun i wr => ∃ (k q n c : Nat), k ≤ en ∧ i = .int .i64 k ∧ Im w W wr g W.heap.size mc q n c (enc4 nm tz bn bl dn dz bss rn rz im ss en ++ encXs es k) ∧ 3 ≤ n ∧ n ≤ 3300 + k * 16) (fun i _ => en - (intOf i).toNat)
                case atStart => exact ⟨0, qd, n + 1, cd, Nat.zero_le _, rfl, by simpa [encXs] using M5, by omega, by omega⟩
                case round =>
                  obtain ⟨k, q, n, c, hk, rfl, E8, hn0, hn1⟩ := hrel
                  clear M5 q0 q1 q2 q3 q4 q5 q6 q7 hn8
                  by_cases hlt : k < en
                  · have hlt' : (k : Int) < (en : Int) := by omega
                    have hr := h.e.below E8.i.below
                    obtain ⟨rb, off, rfl⟩ := hr.addr (by omega)
                    obtain ⟨c0, c1, c2⟩ := hr.at k hlt
                    have hw := HV.out.ew k hlt
                    have HS := hide (show enc4 nm tz bn bl dn dz bss rn rz im ss en ++ encXs es (k + 1) = enc4 nm tz bn bl dn dz bss rn rz im ss en ++ encXs es k ++ encX (es.getD k zE) by unfold encXs; rw [flat_succ _ es zE k (by rw [h.e.1]; exact hlt), List.append_assoc])
                    generalize enc4 nm tz bn bl dn dz bss rn rz im ss en ++ encXs es k = out at *
                    generalize es.getD k zE = z at *
                    obtain ⟨xn, xb, xa⟩ := z
                    dsimp only at c0 c1 c2 hw HS
                    obtain ⟨hw1, hw2, hw3, hw4, hw5⟩ := hw
                    have hnn : n ≤ 3600 := by omega
                    have al : Below wr.heap.size wr (wr.alloc (.cells #[.string xn, .int .i64 xb, .int .i64 xa] 58)) := (Below.refl _ _).alloc (Nat.le_refl _) _
                    have HE9 := hide (E8.keep al)
                    have HKX := hide (Blk.new wr #[.string xn, .int .i64 xb, .int .i64 xa] 58)
                    obtain ⟨x0, x1, x2, x3⟩ := HKX.out.three
                    have hgl := E8.i.box.lt
                    have hgn : wr.heap.size ≠ g := by omega
                    clear E8 al hr hgl
                    go_wp2_with fail
                    refine (text_any w _ g q n c out xn HE9.out.i (by omega) (by omega) (by omega)).mono ?_
                    rintro e w5 ⟨rfl, q5, c5, I5, O5, K5⟩
                    have M5 := HE9.out.step I5 O5 K5
                    have k5 := K5.2 _ _ _ (by decide) hgn HKX.out
                    clear x0 x1 x2 x3 c0 c1 c2 I5 O5 K5 HE9 HKX
                    obtain ⟨x0, x1, x2, x3⟩ := k5.three
                    obtain ⟨n5, hn5⟩ : ∃ n5, n5 = n + (1 + xn.size) := ⟨_, rfl⟩
                    rw [← hn5] at M5
                    have hn5' : 3 ≤ n5 ∧ n5 ≤ 3620 ∧ n5 ≤ n + 13 := by omega
                    clear hn5
                    go_wp2_with fail
                    refine (number_any w w5 g q5 n5 c5 _ (xb + 1) 1 M5.i (Or.inl rfl) (by omega) (by omega) (by omega) (by omega)).mono ?_
                    rintro e w6 ⟨rfl, q6, c6, I6, O6, K6⟩
                    have M6 := M5.step I6 O6 K6
                    have k6 := K6.2 _ _ _ (by decide) hgn k5
                    clear x0 x1 x2 x3 I6 O6 K6 M5 k5
                    obtain ⟨x0, x1, x2, x3⟩ := k6.three
                    go_wp2_with fail
                    refine (number_any w w6 g q6 (n5 + 1) c6 _ xa 2 M6.i (Or.inr (Or.inl rfl)) (by omega) (by omega) (by omega) (by omega)).mono ?_
                    rintro e w7 ⟨rfl, q7, c7, I7, O7, K7⟩
                    have M7 := M6.step I7 O7 K7
                    rw [show out ++ encT xn ++ encN (xb + 1) 1 ++ encN xa 2 = out ++ encX (xn, xb, xa) by unfold encX; simp [List.append_assoc], ← HS.out] at M7
                    have HM7 := hide M7
                    clear M7 I7 O7 K7 M6 k6 x0 x1 x2 x3
                    go_wp2
                    go_roundw
                    case rel => exact ⟨k + 1, q7, n5 + 1 + 2, c7, by omega, by go_num, HM7.out, by omega, by omega⟩
                    case measure => simp [intOf]; omega
                  · obtain rfl : en = k := by omega
                    have HM7 := hide E8
                    have hnn : n ≤ 4000 := by omega
                    clear E8 hlt hk
                    go_wp2
                    go_end0
                    exact ⟨rfl, q, n, c, HM7.out.i, HM7.out.o, HM7.out.k, hnn⟩
end Go.Proofs.Ytngdgogjlpjjpad
