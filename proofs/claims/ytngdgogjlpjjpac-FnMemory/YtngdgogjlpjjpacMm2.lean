import Derived.Test.YtngdgogjlpjjpacMm3
import Derived.Laws.BitsLemmas
namespace Go.Proofs.Ytngdgogjlpjjpac
open Go.RowKit
set_option linter.unusedVariables false
set_option linter.unusedSimpArgs false
set_option maxRecDepth 100000

theorem ob_none (w : World) (base g : Nat) (hb : base ≤ g) (h : Blk w g #[] 5) : OB w base (.slice (some ⟨g, 0, none⟩) 0 0) [] :=
  ⟨⟨rfl, .inr ⟨g, 0, #[], rfl, hb, h, Nat.le_refl _, Nat.zero_le _, rfl, rfl⟩⟩, fun _ h => by cases h⟩
/-- every second byte from k0 on, j of them -/
def every2 (zs : List Int) (k0 j : Nat) : List Int := (List.range j).map fun i => zs.getD (k0 + 2 * i) 0
theorem every2_len (zs : List Int) (k0 j : Nat) : (every2 zs k0 j).length = j := by simp [every2]
theorem every2_step (zs : List Int) (k0 j : Nat) : every2 zs k0 j ++ [zs.getD (k0 + 2 * j) 0] = every2 zs k0 (j + 1) := by simp [every2, List.range_succ]

theorem news1 {W : World} {g : Nat} {z : Int} (h : Blk W g #[.int .u8 z] 5) : ∀ j u, [Value.int .u8 z][j]? = some u → W.cell? ((⟨g, 0, none⟩ : Addr).add j) = some u := by
  intro j u hj
  match j with
  | 0 =>
    have e : (Addr.add ⟨g, 0, none⟩ 0) = ⟨g, 0, none⟩ := rfl
    rw [e, h.cell]
    simpa using hj
  | j + 1 => simp at hj

/-- the bytes that l1Mem draws -/
def mmN (K : Int) : Nat := (16 + K % 3 * 8).toNat
def mmF (zs : List Int) (k0 : Nat) : List Int := if zs.getD k0 0 % 32 = 31 then List.replicate (16384 + zs.getD k0 0 / 128).toNat 0 else every2 zs (k0 + 1) (mmN (zs.getD k0 0))
def mmR (zs : List Int) (k0 : Nat) : List Int := if zs.getD k0 0 % 32 = 30 then List.replicate (16384 + zs.getD k0 0 / 128).toNat 0 else every2 zs (k0 + 1 + 1) (mmN (zs.getD k0 0))
def mmO (zs : List Int) (k0 : Nat) : List Int := if zs.getD k0 0 % 32 = 29 then List.replicate (4999 + zs.getD k0 0 / 64).toNat 0 else []
theorem ob_addr2 {w : World} {base : Nat} {v : Value} {zs : List Int} (h : OB w base v zs) (hn : zs.length ≠ 0) : ∃ g d, v = .slice (some ⟨g, 0, none⟩) zs.length d := by
  obtain ⟨hl, ⟨h0', h1⟩ | ⟨g, cap', cur, hv, _⟩⟩ := h.1
  · exact absurd h1 hn
  · exact ⟨g, cap', hv⟩

set_option maxHeartbeats 2000000 in
theorem l1Mem_any (r : Nat) (a : Option Addr) (n c : Nat) (zs : List Int) (k0 : Nat) (w : World) (h : Rdr w r a n c zs k0) (hcode : n ≠ 0 → ∀ b off, a = some ⟨b, off, none⟩ → b < w.heap.size) :
    Calls Try.prog 39 #[.pointer (some ⟨r, 0, none⟩)] w (MmPost w r a n c zs (k0 + 1 + 2 * mmN (zs.getD k0 0)) (mmF zs k0) (mmR zs k0) (mmO zs k0)) := by
  obtain ⟨i0, hi, hz0, hz1, hz2⟩ := info_parts info8
  have hrw := h.blk.lt
  have T0 : Turn (fun j => j = r) w (w.alloc (.cells #[.slice none 0 0, .slice none 0 0, .slice none 0 0] 24)) := turn_alloc w _
  have kr0 := Blk.new w #[.slice none 0 0, .slice none 0 0, .slice none 0 0] 24
  have h0 := rdr_below h ((Below.refl w.heap.size w).alloc (Nat.le_refl _) (.cells #[.slice none 0 0, .slice none 0 0, .slice none 0 0] 24))
  obtain ⟨K, E1, z0, z0'⟩ := draw_is h.bs k0
  obtain ⟨N, hN⟩ : ∃ N : Nat, N = mmN K := ⟨_, rfl⟩
  have HN : Hid ((N : Int) = 16 + K % 3 * 8) := by show _ = _; rw [hN]; unfold mmN; omega
  have hN16 : 16 ≤ N := by have := HN.out; omega
  have hN32 : N ≤ 32 := by have := HN.out; omega
  obtain ⟨F1, hF1⟩ : ∃ F1, F1 = mmF zs k0 := ⟨_, rfl⟩
  obtain ⟨F2, hF2⟩ : ∃ F2, F2 = mmR zs k0 := ⟨_, rfl⟩
  obtain ⟨F3, hF3⟩ : ∃ F3, F3 = mmO zs k0 := ⟨_, rfl⟩
  rw [← hF1, ← hF2, ← hF3, E1.out, ← hN]
  unfold mmF at hF1
  unfold mmR at hF2
  unfold mmO at hF3
  rw [E1.out, ← hN] at hF1 hF2
  rw [E1.out] at hF3
  have HF1 := hide hF1
  have HF2 := hide hF2
  have HF3 := hide hF3
  clear h hN hF1 hF2 hF3
  go_enter Try.func39, Try.ntmps39
  go_wp2_with fail
  refine (next_is r a n c zs k0 K _ h0 E1).mono ?_
  rintro e w1 ⟨rfl, h1, t1⟩
  have kr1 := turn_blk t1 kr0 (by omega)
  have T1 := T0.trans t1
  have hz1' := kr1.lt
  clear t1 kr0 T0 h0
  have M0 : Ms w ((((w1.alloc (.cells #[] 5)).alloc (.cells #[] 5)).alloc (.cells #[] 5)).alloc (.cells #[.slice (some ⟨w1.heap.size, 0, none⟩) 0 0, .slice (some ⟨w1.heap.size + 1, 0, none⟩) 0 0, .slice (some ⟨w1.heap.size + 1 + 1, 0, none⟩) 0 0] 24)) r a n c zs (k0 + 1) (w1.heap.size + 1 + 1 + 1) (.slice (some ⟨w1.heap.size, 0, none⟩) 0 0) (.slice (some ⟨w1.heap.size + 1, 0, none⟩) 0 0) (.slice (some ⟨w1.heap.size + 1 + 1, 0, none⟩) 0 0) [] [] [] := by
    have x1 := (((Blk.new w1 #[] 5).alloc (.cells #[] 5)).alloc (.cells #[] 5)).alloc (.cells #[.slice (some ⟨w1.heap.size, 0, none⟩) 0 0, .slice (some ⟨w1.heap.size + 1, 0, none⟩) 0 0, .slice (some ⟨w1.heap.size + 1 + 1, 0, none⟩) 0 0] 24)
    have x2 := ((Blk.new (w1.alloc (.cells #[] 5)) #[] 5).alloc (.cells #[] 5)).alloc (.cells #[.slice (some ⟨w1.heap.size, 0, none⟩) 0 0, .slice (some ⟨w1.heap.size + 1, 0, none⟩) 0 0, .slice (some ⟨w1.heap.size + 1 + 1, 0, none⟩) 0 0] 24)
    have x3 := (Blk.new ((w1.alloc (.cells #[] 5)).alloc (.cells #[] 5)) #[] 5).alloc (.cells #[.slice (some ⟨w1.heap.size, 0, none⟩) 0 0, .slice (some ⟨w1.heap.size + 1, 0, none⟩) 0 0, .slice (some ⟨w1.heap.size + 1 + 1, 0, none⟩) 0 0] 24)
    have x4 := Blk.new (((w1.alloc (.cells #[] 5)).alloc (.cells #[] 5)).alloc (.cells #[] 5)) #[.slice (some ⟨w1.heap.size, 0, none⟩) 0 0, .slice (some ⟨w1.heap.size + 1, 0, none⟩) 0 0, .slice (some ⟨w1.heap.size + 1 + 1, 0, none⟩) 0 0] 24
    simp only [World.size_alloc] at x2 x3 x4
    have ra := fun O => rdr_below (W' := w1.alloc O) h1 ((Below.refl _ _).alloc (Nat.le_refl _) _)
    have hR := rdr_below (rdr_below (rdr_below (rdr_below h1 ((Below.refl _ _).alloc (Nat.le_refl _) (.cells #[] 5))) ((Below.refl _ _).alloc (Nat.le_refl _) (.cells #[] 5))) ((Below.refl _ _).alloc (Nat.le_refl _) (.cells #[] 5))) ((Below.refl _ _).alloc (Nat.le_refl _) (.cells #[.slice (some ⟨w1.heap.size, 0, none⟩) 0 0, .slice (some ⟨w1.heap.size + 1, 0, none⟩) 0 0, .slice (some ⟨w1.heap.size + 1 + 1, 0, none⟩) 0 0] 24))
    have hT := (((T1.trans (turn_alloc _ (.cells #[] 5))).trans (turn_alloc _ (.cells #[] 5))).trans (turn_alloc _ (.cells #[] 5))).trans (turn_alloc _ (.cells #[.slice (some ⟨w1.heap.size, 0, none⟩) 0 0, .slice (some ⟨w1.heap.size + 1, 0, none⟩) 0 0, .slice (some ⟨w1.heap.size + 1 + 1, 0, none⟩) 0 0] 24))
    refine ⟨(((kr1.alloc _).alloc _).alloc _).alloc _, x4, ob_none _ _ _ (by omega) x1, ob_none _ _ _ (by omega) x2, ob_none _ _ _ (by omega) x3, ?_, ?_, ?_, ?_, ?_, ?_, hR, hT, by omega, hrw, hcode⟩
    all_goals first | (simp [Value.ownBlock]; done) | (simp [Value.ownBlock]; omega)
  have HM := hide M0
  clear M0 T1 kr1 h1
  go_wp2
  go_loopw [5] (fun i wr => ∃ (j : Nat) (v1 v2 : Value), j ≤ N ∧ i = .int .i64 j ∧ Ms w wr r a n c zs (k0 + 1 + 2 * j) (w1.heap.size + 1 + 1 + 1) v1 v2 (.slice (some ⟨w1.heap.size + 1 + 1, 0, none⟩) 0 0) (every2 zs (k0 + 1) j) (every2 zs (k0 + 1 + 1) j) []) (fun i _ => N - (intOf i).toNat)
  case atStart => exact ⟨0, _, _, Nat.zero_le _, rfl, HM.out⟩
  case round =>
    obtain ⟨j, v1, v2, hj, rfl, M⟩ := hrel
    obtain ⟨w9, hw9⟩ : ∃ w9, w9 = wr := ⟨_, rfl⟩
    subst hw9
    by_cases hlt : j < N
    · have hlt' : (j : Int) < 16 + K % 3 * 8 := by have := HN.out; omega
      obtain ⟨y, E2, y0, y0'⟩ := draw_is M.rd.bs (k0 + 1 + 2 * j)
      obtain ⟨q1, q2, q3, q4⟩ := M.box.three
      have hl1 : (every2 zs (k0 + 1) j).length = j := every2_len _ _ _
      have HMM := hide M
      clear M
      go_wp2
      have ez := hide (show IntKind.u8.wrap y = y from wraps_u8 y y0 (by omega))
      go_region_law (first
          | (refine step_append_lies _ rfl _ _ 22 rfl (w.heap.size + 1) 5 i0 (.int .u8 0) 1 1 Try.underlying22 hi hz0 hz1 hz2 rfl (by decide) v1 (every2 zs (k0 + 1) j).length ((every2 zs (k0 + 1) j).map (Value.int .u8)) rfl (MA.out.more _).o1.1 ⟨wa.heap.size, 0, none⟩ 1 1 [.int .u8 (IntKind.u8.wrap y)] rfl rfl (news1 (Blk.new wa _ _)) (by intro u hu; simp at hu; subst hu; rfl) (by decide) (by unfold maxLen; omega) (by omega) (by have := MA.out.turn.size; simp; omega) _ rfl ?_; intro g cap w3 hown3 hgr3 hat3 hlt3; obtain ⟨c1, c2, c3, c4⟩ := (grown_blk hgr3 (MA.out.more (.cells #[.int .u8 (IntKind.u8.wrap y)] 5)).box (fun e => MA.out.g1 e.symm)).three)
          | (go_simp; go_at_call 41; refine (next_is r a n c zs (k0 + 1 + 2 * j) y _ ?_ E2).mono ?_; exact HMM.out.drew; rintro e wa ⟨rfl, hra, ta⟩; have MA := hide (HMM.out.next hra ⟨ta.os, ta.tape, ta.output, ta.size, ta.block⟩); obtain ⟨c1, c2, c3, c4⟩ := MA.out.box.three; have hGa := MA.out.box.lt))
      all_goals
        have M1 := (MA.out.more (.cells #[.int .u8 (IntKind.u8.wrap y)] 5)).flash (IntKind.u8.wrap y) (by rw [ez.out]; omega) g cap _ hown3 hgr3 hat3 rfl
        rw [hl1, ez.out, ← E2.out, every2_step] at M1
        clear MA hown3 hgr3 hat3 hlt3 c1 c2 c3 c4 hGa q1 q2 q3 q4 HMM
        generalize w3.setCell ⟨w1.heap.size + 1 + 1 + 1, 0, none⟩ (.slice (some ⟨g, 0, none⟩) (j + 1) cap) = W1 at *
        obtain ⟨y', E3, u0, u0'⟩ := draw_is M1.rd.bs (k0 + 1 + 2 * j + 1)
        have ez' := hide (show IntKind.u8.wrap y' = y' from wraps_u8 y' u0 (by omega))
        have hl2 : (every2 zs (k0 + 1 + 1) j).length = j := every2_len _ _ _
        have HM1 := hide M1
        obtain ⟨q1, q2, q3, q4⟩ := M1.box.three
        clear M1 hl1
        go_wp2
        go_region_law (first
          | (refine step_append_lies _ rfl _ _ 22 rfl (w.heap.size + 1) 5 i0 (.int .u8 0) 1 1 Try.underlying22 hi hz0 hz1 hz2 rfl (by decide) v2 (every2 zs (k0 + 1 + 1) j).length ((every2 zs (k0 + 1 + 1) j).map (Value.int .u8)) rfl (MB.out.more _).o2.1 ⟨wb.heap.size, 0, none⟩ 1 1 [.int .u8 (IntKind.u8.wrap y')] rfl rfl (news1 (Blk.new wb _ _)) (by intro u hu; simp at hu; subst hu; rfl) (by decide) (by unfold maxLen; omega) (by omega) (by have := MB.out.turn.size; simp; omega) _ rfl ?_; intro gb capb w4 hown4 hgr4 hat4 hlt4; obtain ⟨d1, d2, d3, d4⟩ := (grown_blk hgr4 (MB.out.more (.cells #[.int .u8 (IntKind.u8.wrap y')] 5)).box (fun e => MB.out.g2 e.symm)).three)
          | (go_simp; go_at_call 41; refine (next_is r a n c zs (k0 + 1 + 2 * j + 1) y' _ ?_ E3).mono ?_; exact HM1.out.drew; rintro e wb ⟨rfl, hrb, tb⟩; have MB := hide (HM1.out.next hrb ⟨tb.os, tb.tape, tb.output, tb.size, tb.block⟩); obtain ⟨d1, d2, d3, d4⟩ := MB.out.box.three; have hGb := MB.out.box.lt))
        all_goals
          have M2 := (MB.out.more (.cells #[.int .u8 (IntKind.u8.wrap y')] 5)).ram (IntKind.u8.wrap y') (by rw [ez'.out]; omega) gb capb _ hown4 hgr4 hat4 rfl
          rw [hl2, ez'.out, ← E3.out, show k0 + 1 + 2 * j + 1 = k0 + 1 + 1 + 2 * j by omega, every2_step, show k0 + 1 + 1 + 2 * j + 1 = k0 + 1 + 2 * (j + 1) by omega] at M2
          have HM2 := hide M2
          clear M2 MB hown4 hgr4 hat4 hlt4 d1 d2 d3 d4 hGb q1 q2 q3 q4 HM1
          go_wp2
          go_roundw
          case rel => exact ⟨j + 1, _, _, by omega, by go_num, HM2.out⟩
          case measure => simp [intOf]; omega
    · have hge : ¬ (j : Int) < 16 + K % 3 * 8 := by have := HN.out; omega
      obtain rfl : j = N := by omega
      clear hlt hj
      obtain ⟨b1, d1, rfl⟩ := ob_addr2 M.o1 (by rw [every2_len]; omega)
      obtain ⟨b2, d2, rfl⟩ := ob_addr2 M.o2 (by rw [every2_len]; omega)
      rw [every2_len, every2_len] at M
      have hG := M.box.lt
      have hsz := M.turn.size
      have hx1 := (M.o1.lt b1 rfl).2
      have hx2 := (M.o2.lt b2 rfl).2
      have hx3 := (M.o3.lt _ rfl).2
      have hbig := M.big
      by_cases h31 : K % 32 = 31
      · have g31 : (K % 32 == 31) = true := by simpa using h31
        have g30 : (K % 32 == 30) = false := by simp; omega
        have g29 : (K % 32 == 29) = false := by simp; omega
        obtain ⟨m, hm⟩ : ∃ m : Nat, (m : Int) = 16384 + K / 128 := ⟨(16384 + K / 128).toNat, by omega⟩
        have e1 : F1 = List.replicate m 0 := by rw [HF1.out, if_pos h31]; congr 1; omega
        have e2 : F2 = every2 zs (k0 + 1 + 1) j := by rw [HF2.out, if_neg (by omega)]
        have e3 : F3 = [] := by rw [HF3.out, if_neg (by omega)]
        have X1 := hide e1
        have X2 := hide e2
        have X3 := hide e3
        clear h31 HF1 HF2 HF3 e1 e2 e3
        go_wp2_with fail
        rw [← hm]
        refine (l1Long_any m _ (by omega)).mono ?_
        rintro e w5 ⟨rfl, ho5, hb5⟩
        have M5 := M.below hb5
        obtain ⟨q1, q2, q3, q4⟩ := M5.box.three
        obtain ⟨p1, p2, p3, p4⟩ := M5.res.three
        have M6 := hide (M5.put1 (ho5.mono (by omega)) (fun k hk e => by have := M.o2.lt k e; have hk' : some w9.heap.size = some k := hk; injection hk' with hk'; omega) (fun k hk e => by have := M.o3.lt k e; have hk' : some w9.heap.size = some k := hk; injection hk' with hk'; omega) (by intro e; have e' : some w9.heap.size = some (w1.heap.size + 1 + 1 + 1) := e; injection e' with e'; omega))
        clear M5 M hb5 ho5
        go_wp2
        rw [X1.out, X2.out, X3.out]
        (with_reducible refine M6.out.done _ Try.results39 _ ?_); rfl
      · by_cases h30 : K % 32 = 30
        · have g31 : (K % 32 == 31) = false := by simp; omega
          have g30 : (K % 32 == 30) = true := by simpa using h30
          have g29 : (K % 32 == 29) = false := by simp; omega
          obtain ⟨m, hm⟩ : ∃ m : Nat, (m : Int) = 16384 + K / 128 := ⟨(16384 + K / 128).toNat, by omega⟩
          have e1 : F1 = every2 zs (k0 + 1) j := by rw [HF1.out, if_neg h31]
          have e2 : F2 = List.replicate m 0 := by rw [HF2.out, if_pos h30]; congr 1; omega
          have e3 : F3 = [] := by rw [HF3.out, if_neg (by omega)]
          have X1 := hide e1
          have X2 := hide e2
          have X3 := hide e3
          clear h31 h30 HF1 HF2 HF3 e1 e2 e3
          go_wp2_with fail
          rw [← hm]
          refine (l1Long_any m _ (by omega)).mono ?_
          rintro e w5 ⟨rfl, ho5, hb5⟩
          have M5 := M.below hb5
          obtain ⟨q1, q2, q3, q4⟩ := M5.box.three
          obtain ⟨p1, p2, p3, p4⟩ := M5.res.three
          have M6 := hide (M5.put2 (ho5.mono (by omega)) (fun k hk e => by have := M.o1.lt k e; have hk' : some w9.heap.size = some k := hk; injection hk' with hk'; omega) (fun k hk e => by have := M.o3.lt k e; have hk' : some w9.heap.size = some k := hk; injection hk' with hk'; omega) (by intro e; have e' : some w9.heap.size = some (w1.heap.size + 1 + 1 + 1) := e; injection e' with e'; omega))
          clear M5 M hb5 ho5
          go_wp2
          rw [X1.out, X2.out, X3.out]
          (with_reducible refine M6.out.done _ Try.results39 _ ?_); rfl
        · by_cases h29 : K % 32 = 29
          · have g31 : (K % 32 == 31) = false := by simp; omega
            have g30 : (K % 32 == 30) = false := by simp; omega
            have g29 : (K % 32 == 29) = true := by simpa using h29
            obtain ⟨m, hm⟩ : ∃ m : Nat, (m : Int) = 4999 + K / 64 := ⟨(4999 + K / 64).toNat, by omega⟩
            have e1 : F1 = every2 zs (k0 + 1) j := by rw [HF1.out, if_neg h31]
            have e2 : F2 = every2 zs (k0 + 1 + 1) j := by rw [HF2.out, if_neg h30]
            have e3 : F3 = List.replicate m 0 := by rw [HF3.out, if_pos h29]; congr 1; omega
            have X1 := hide e1
            have X2 := hide e2
            have X3 := hide e3
            clear h31 h30 h29 HF1 HF2 HF3 e1 e2 e3
            go_wp2_with fail
            rw [← hm]
            refine (l1Long_any m _ (by omega)).mono ?_
            rintro e w5 ⟨rfl, ho5, hb5⟩
            have M5 := M.below hb5
            obtain ⟨q1, q2, q3, q4⟩ := M5.box.three
            obtain ⟨p1, p2, p3, p4⟩ := M5.res.three
            have M6 := hide (M5.put3 (ho5.mono (by omega)) (fun k hk e => by have := M.o1.lt k e; have hk' : some w9.heap.size = some k := hk; injection hk' with hk'; omega) (fun k hk e => by have := M.o2.lt k e; have hk' : some w9.heap.size = some k := hk; injection hk' with hk'; omega) (by intro e; have e' : some w9.heap.size = some (w1.heap.size + 1 + 1 + 1) := e; injection e' with e'; omega))
            clear M5 M hb5 ho5
            go_wp2
            rw [X1.out, X2.out, X3.out]
            (with_reducible refine M6.out.done _ Try.results39 _ ?_); rfl
          · have g31 : (K % 32 == 31) = false := by simp; omega
            have g30 : (K % 32 == 30) = false := by simp; omega
            have g29 : (K % 32 == 29) = false := by simp; omega
            have e1 : F1 = every2 zs (k0 + 1) j := by rw [HF1.out, if_neg h31]
            have e2 : F2 = every2 zs (k0 + 1 + 1) j := by rw [HF2.out, if_neg h30]
            have e3 : F3 = [] := by rw [HF3.out, if_neg h29]
            have X1 := hide e1
            have X2 := hide e2
            have X3 := hide e3
            clear h31 h30 h29 HF1 HF2 HF3 e1 e2 e3
            obtain ⟨q1, q2, q3, q4⟩ := M.box.three
            obtain ⟨p1, p2, p3, p4⟩ := M.res.three
            have M6 := hide M
            clear M
            go_wp2
            rw [X1.out, X2.out, X3.out]
            (with_reducible refine M6.out.done _ Try.results39 _ ?_); rfl
end Go.Proofs.Ytngdgogjlpjjpac
