import Derived.Lib.SmallJoins
import Derived.Test.YtngdgogjlpjjpadP00
import Derived.Test.YtngdgogjlpjjpadP14
import Derived.Test.YtngdgogjlpjjpadP13
import Derived.Test.YtngdgogjlpjjpadP23
import Derived.Test.YtngdgogjlpjjpadP35
import Derived.Test.YtngdgogjlpjjpadP37
import Derived.Test.YtngdgogjlpjjpadP44
import Derived.Test.YtngdgogjlpjjpadP45
namespace Go.Proofs.Ytngdgogjlpjjpad
open Go.RowKit
set_option linter.unusedVariables false
set_option linter.unusedSimpArgs false
set_option maxRecDepth 100000
set_option maxHeartbeats 2000000 in
theorem sEncodeModule_none (nm : ByteArray) (ta : Option Addr) (tn tc : Nat) (tz : List Int) (ba : Option Addr) (bn bc : Nat) (bl : List Bk) (da : Option Addr) (dn dc : Nat) (dz : List Int) (bss : Int) (ra : Option Addr) (rn rc : Nat) (rz : List Int) (ia : Option Addr) (im ic : Nat) (ss : List ByteArray) (ea : Option Addr) (en ec : Nat) (es : List Ex) (w : World)
    (h : MD w nm ta tn tc tz ba bn bc bl da dn dc dz bss ra rn rc rz ia im ic ss ea en ec es) (hv : mdo nm tn tz bn bl dn bss rn rz im ss en es ≠ 0) :
    Calls Try.prog 11 #[.agg #[.string nm, .slice ta tn tc, .slice ba bn bc, .slice da dn dc, .int .i64 bss, .slice ra rn rc, .slice ia im ic, .slice ea en ec]] w fun e w' => ∃ g, e = .returned (.slice (some ⟨g, 0, none⟩) 0 0) ∧ OB w' w.heap.size (.slice (some ⟨g, 0, none⟩) 0 0) [] ∧ Below w.heap.size w w' := by
  have HOK := hide (fun w h => sModuleOk_any nm ta tn tc tz ba bn bc bl da dn dc dz bss ra rn rc rz ia im ic ss ea en ec es w h)
  have k0 := Blk.new w #[.string nm, .slice ta tn tc, .slice ba bn bc, .slice da dn dc, .int .i64 bss, .slice ra rn rc, .slice ia im ic, .slice ea en ec] 29
  have hB0 : Below w.heap.size w (w.alloc (.cells #[.string nm, .slice ta tn tc, .slice ba bn bc, .slice da dn dc, .int .i64 bss, .slice ra rn rc, .slice ia im ic, .slice ea en ec] 29)) := (Below.refl _ _).alloc (Nat.le_refl _) _
  generalize mdo nm tn tz bn bl dn bss rn rz im ss en es = v at *
  go_enter Try.func11, Try.ntmps11
  go_wp2_with fail
  refine (HOK.out _ (MD.below h hB0)).mono ?_
  rintro e w1 ⟨rfl, hb1⟩
  have hB1 := hB0.trans (hb1.mono (by simp))
  have hs1 := hB1.size
  clear hb1 hB0 HOK k0
  go_wp2
  go_ret
  exact ⟨w1.heap.size, rfl, ⟨⟨by simp, .inr ⟨w1.heap.size, 0, #[], rfl, hs1, heap_alloc_new w1 _, Nat.le_refl _, by unfold maxLen; omega, rfl, rfl⟩⟩, by simp⟩, hB1.alloc hs1 _⟩
def encB (P : PMod) : List Int := if mdoP P = 0 then encP P else []
def OutP (X : World) (B : List Int) (e : Ending) (w' : World) : Prop := ∃ g m cap, e = .returned (.slice (some ⟨g, 0, none⟩) m cap) ∧ OB w' X.heap.size (.slice (some ⟨g, 0, none⟩) m cap) B ∧ Below X.heap.size X w'
theorem sEnc_out {X : World} {base : Nat} {P : PMod} {M : Ma} (mo : MO X base P M) (DP : DoR P) (ds : ∃ db, M.a3 = some ⟨db, 0, none⟩) : Calls Try.prog 11 #[.agg #[.string P.nm, .slice M.a1 P.tz.length M.c1, .slice M.a2 M.bl.length M.c2, .slice M.a3 P.dz.length M.c3, .int .i64 P.bss, .slice M.a5 P.rz.length M.c5, .slice M.a6 P.ss.length M.c6, .slice M.a7 P.es.length M.c7]] X (OutP X (encB P)) := by
  obtain ⟨db, hdb⟩ := ds
  unfold encB
  by_cases hv : mdoP P = 0
  · rw [if_pos hv]
    have h := sEncodeModule_any P.nm M.a1 P.tz.length M.c1 P.tz M.a2 M.bl.length M.c2 M.bl db P.dz.length M.c3 P.dz P.bss M.a5 P.rz.length M.c5 P.rz M.a6 P.ss.length M.c6 P.ss M.a7 P.es.length M.c7 P.es X (by rw [← hdb]; exact mo.md DP) (by rw [mo.mdo']; exact hv)
    rw [encP_bl mo.bls, ← hdb] at h
    refine h.mono ?_
    rintro e w' ⟨a, n, c, rfl, ob, b, _⟩
    have hl := ob.bs.1
    have h2 : 0 < (encP P).length := by rw [encP_eq]; simp
    obtain ⟨g, cap, hg, _⟩ := World.ownsRow.form ob.1 (by omega)
    rw [hl] at hg
    exact ⟨g, n, cap, by rw [hg], by rw [← hg]; exact ob, b⟩
  · rw [if_neg hv]
    refine (sEncodeModule_none P.nm M.a1 P.tz.length M.c1 P.tz M.a2 M.bl.length M.c2 M.bl M.a3 P.dz.length M.c3 P.dz P.bss M.a5 P.rz.length M.c5 P.rz M.a6 P.ss.length M.c6 P.ss M.a7 P.es.length M.c7 P.es X (mo.md DP) (by rw [mo.mdo']; exact hv)).mono ?_
    rintro e w' ⟨g, rfl, ob, b⟩
    exact ⟨g, 0, 0, rfl, ob, b⟩
theorem ob_takeN {W : World} {base g m cap : Nat} {B : List Int} (h : OB W base (.slice (some ⟨g, 0, none⟩) m cap) B) (p : Nat) (hp : p ≤ m) : OB W base (.slice (some ⟨g, 0, none⟩) p cap) (B.take p) := by
  have hl := h.bs.1
  refine ⟨?_, fun z hz => h.2 z (List.mem_of_mem_take hz)⟩
  obtain ⟨h1, ⟨h0, _⟩ | ⟨g', cap', cur, hv, hg, hh, a1, a2, a3, a4⟩⟩ := h.1
  · simp at h0
  · simp at hv
    obtain ⟨rfl, e2, rfl⟩ := hv
    have hlp : (B.take p).length = p := by simp; omega
    refine ⟨by simp, .inr ⟨g, cap, cur, by rw [hlp], hg, hh, by omega, a2, a3, ?_⟩⟩
    rw [hlp, Nat.mul_one, List.map_take, ← a4, hl, Nat.mul_one, List.take_take, Nat.min_eq_left hp]
theorem ob_setN {W : World} {base g m cap : Nat} {B : List Int} (h : OB W base (.slice (some ⟨g, 0, none⟩) m cap) B) (p : Nat) (x : Int) (hx : 0 ≤ x ∧ x ≤ 255) : OB (W.setCell ⟨g, p, none⟩ (.int .u8 x)) base (.slice (some ⟨g, 0, none⟩) m cap) (B.set p x) := by
  have hl := h.bs.1
  have h1 := h.1
  rw [hl] at h1
  refine ⟨?_, fun z hz => ?_⟩
  · rw [List.length_set, hl, List.map_set]
    exact owns_set h1 p (.int .u8 x)
  · rcases List.mem_or_eq_of_mem_set hz with hz | rfl
    · exact h.2 z hz
    · exact hx
def ImP (w : World) (r : Nat) (a : Option Addr) (n c : Nat) (zs : List Int) (B : List Int) (k' : Nat) (e : Ending) (w' : World) : Prop := ∃ g m cap, e = .returned (.slice (some ⟨g, 0, none⟩) m cap) ∧ Dst w w' r a n c zs k' ∧ OB w' w.heap.size (.slice (some ⟨g, 0, none⟩) m cap) B
def ImgFn (zs : List Int) (k : Nat) (P : PMod) (B : List Int) (k' : Nat) : Prop := ∀ (w W : World) (r : Nat) (a : Option Addr) (n c : Nat) (M : Ma) (D : Dst w W r a n c zs k) (o : MO W w.heap.size P M) (ds : ∃ db, M.a3 = some ⟨db, 0, none⟩), Calls Try.prog 20 #[.pointer (some ⟨r, 0, none⟩), .agg #[.string P.nm, .slice M.a1 P.tz.length M.c1, .slice M.a2 M.bl.length M.c2, .slice M.a3 P.dz.length M.c3, .int .i64 P.bss, .slice M.a5 P.rz.length M.c5, .slice M.a6 P.ss.length M.c6, .slice M.a7 P.es.length M.c7]] W (ImP w r a n c zs B k')
theorem ob_keptR {w W W' : World} {r : Nat} {v : Value} {B : List Int} (h : OB W w.heap.size v B) (ht : Turn (fun j => j = r) W W') (hr : r < w.heap.size) : OB W' w.heap.size v B := turn_ob ht h (fun k hk e => by have := (h.lt k hk).1; omega)
set_option maxHeartbeats 2000000 in
theorem img_0 (zs : List Int) (k : Nat) (K : Int) (E1 : Hid (zs.getD k 0 = K)) (z0 : 0 ≤ K) (z1 : K ≤ 255) (P : PMod) (DP : DoR P) (L : Nat) (hL : (encB P).length = L) (hLs : L ≤ 5000) (h0 : L = 0) : ImgFn zs k P (encB P) (k + 1) := by
  intro w W r a n c M D o ds
  have al := al_below W (.cells #[.string P.nm, .slice M.a1 P.tz.length M.c1, .slice M.a2 M.bl.length M.c2, .slice M.a3 P.dz.length M.c3, .int .i64 P.bss, .slice M.a5 P.rz.length M.c5, .slice M.a6 P.ss.length M.c6, .slice M.a7 P.es.length M.c7] 29)
  have kb := Blk.new W #[.string P.nm, .slice M.a1 P.tz.length M.c1, .slice M.a2 M.bl.length M.c2, .slice M.a3 P.dz.length M.c3, .int .i64 P.bss, .slice M.a5 P.rz.length M.c5, .slice M.a6 P.ss.length M.c6, .slice M.a7 P.es.length M.c7] 29
  have D0 := D.below al
  have mo0 := o.below al
  have hs0 := D.sz
  have hr := D.lt
  clear al D o
  go_enter Try.func20, Try.ntmps20
  go_wp2_with fail
  refine (D0.next K E1).mono ?_
  rintro e w1 ⟨rfl, D1, t1⟩
  have mo1 := mo0.kept t1 (fun j hj => .inl (by subst hj; exact hr))
  obtain ⟨x0, x1, x2, x3, x4, x5, x6, x7⟩ := (turn_blk t1 kb (by omega)).eight'
  have HS := hide (sEnc_out mo1 DP ds)
  clear D0 mo0 kb t1 mo1 ds E1
  go_wp2_with fail
  refine HS.out.mono ?_
  rintro e w2 ⟨g, m, cap, rfl, ob, b2⟩
  have hm : m = L := by rw [← hL]; exact ob.bs.1.symm
  subst hm
  have HF := hide (And.intro (D1.below b2) (ob.mono D1.sz))
  clear D1 b2 ob HS x0 x1 x2 x3 x4 x5 x6 x7 hL
  subst h0
  go_wp2
  go_ret
  exact ⟨g, 0, cap, rfl, HF.out.1, HF.out.2⟩
set_option maxHeartbeats 2000000 in
theorem img_a (zs : List Int) (k : Nat) (K : Int) (E1 : Hid (zs.getD k 0 = K)) (z0 : 0 ≤ K) (z1 : K ≤ 255) (P : PMod) (DP : DoR P) (L : Nat) (hL : (encB P).length = L) (hLs : L ≤ 5000) (h0 : 0 < L) (hk : K % 8 < 5) : ImgFn zs k P (encB P) (k + 1) := by
  intro w W r a n c M D o ds
  have al := al_below W (.cells #[.string P.nm, .slice M.a1 P.tz.length M.c1, .slice M.a2 M.bl.length M.c2, .slice M.a3 P.dz.length M.c3, .int .i64 P.bss, .slice M.a5 P.rz.length M.c5, .slice M.a6 P.ss.length M.c6, .slice M.a7 P.es.length M.c7] 29)
  have kb := Blk.new W #[.string P.nm, .slice M.a1 P.tz.length M.c1, .slice M.a2 M.bl.length M.c2, .slice M.a3 P.dz.length M.c3, .int .i64 P.bss, .slice M.a5 P.rz.length M.c5, .slice M.a6 P.ss.length M.c6, .slice M.a7 P.es.length M.c7] 29
  have D0 := D.below al
  have mo0 := o.below al
  have hs0 := D.sz
  have hr := D.lt
  clear al D o
  go_enter Try.func20, Try.ntmps20
  go_wp2_with fail
  refine (D0.next K E1).mono ?_
  rintro e w1 ⟨rfl, D1, t1⟩
  have mo1 := mo0.kept t1 (fun j hj => .inl (by subst hj; exact hr))
  obtain ⟨x0, x1, x2, x3, x4, x5, x6, x7⟩ := (turn_blk t1 kb (by omega)).eight'
  have HS := hide (sEnc_out mo1 DP ds)
  clear D0 mo0 kb t1 mo1 ds E1
  go_wp2_with fail
  refine HS.out.mono ?_
  rintro e w2 ⟨g, m, cap, rfl, ob, b2⟩
  have hm : m = L := by rw [← hL]; exact ob.bs.1.symm
  subst hm
  have HF := hide (And.intro (D1.below b2) (ob.mono D1.sz))
  clear D1 b2 ob HS x0 x1 x2 x3 x4 x5 x6 x7 hL
  have hn0 : ¬ m = 0 := by omega
  have hn1 : ¬ (m : Int) = 0 := by omega
  go_wp2
  go_ret
  exact ⟨g, m, cap, rfl, HF.out.1, HF.out.2⟩
set_option maxHeartbeats 2000000 in
theorem img_b (zs : List Int) (k : Nat) (K : Int) (E1 : Hid (zs.getD k 0 = K)) (z0 : 0 ≤ K) (z1 : K ≤ 255) (P : PMod) (DP : DoR P) (L : Nat) (hL : (encB P).length = L) (hLs : L ≤ 5000) (h0 : 0 < L) (V1 V2 : Int) (E2 : Hid (zs.getD (k + 1) 0 = V1)) (E3 : Hid (zs.getD (k + 1 + 1) 0 = V2)) (a0 : 0 ≤ V1) (a1 : V1 ≤ 255) (b0 : 0 ≤ V2) (b1 : V2 ≤ 255) (p : Nat) (hp : (p : Int) = (V1 * 256 + V2) % (L : Int)) (hk : K % 8 = 5) : ImgFn zs k P ((encB P).take p) (k + 1 + 1 + 1) := by
  intro w W r a n c M D o ds
  have al := al_below W (.cells #[.string P.nm, .slice M.a1 P.tz.length M.c1, .slice M.a2 M.bl.length M.c2, .slice M.a3 P.dz.length M.c3, .int .i64 P.bss, .slice M.a5 P.rz.length M.c5, .slice M.a6 P.ss.length M.c6, .slice M.a7 P.es.length M.c7] 29)
  have kb := Blk.new W #[.string P.nm, .slice M.a1 P.tz.length M.c1, .slice M.a2 M.bl.length M.c2, .slice M.a3 P.dz.length M.c3, .int .i64 P.bss, .slice M.a5 P.rz.length M.c5, .slice M.a6 P.ss.length M.c6, .slice M.a7 P.es.length M.c7] 29
  have D0 := D.below al
  have mo0 := o.below al
  have hs0 := D.sz
  have hr := D.lt
  clear al D o
  go_enter Try.func20, Try.ntmps20
  go_wp2_with fail
  refine (D0.next K E1).mono ?_
  rintro e w1 ⟨rfl, D1, t1⟩
  have mo1 := mo0.kept t1 (fun j hj => .inl (by subst hj; exact hr))
  obtain ⟨x0, x1, x2, x3, x4, x5, x6, x7⟩ := (turn_blk t1 kb (by omega)).eight'
  have HS := hide (sEnc_out mo1 DP ds)
  clear D0 mo0 kb t1 mo1 ds E1
  go_wp2_with fail
  refine HS.out.mono ?_
  rintro e w2 ⟨g, m, cap, rfl, ob, b2⟩
  have hm : m = L := by rw [← hL]; exact ob.bs.1.symm
  subst hm
  have HF := hide (And.intro (D1.below b2) (ob.mono D1.sz))
  clear D1 b2 ob HS x0 x1 x2 x3 x4 x5 x6 x7 hL
  have hn0 : ¬ m = 0 := by omega
  have hn1 : ¬ (m : Int) = 0 := by omega
  have hk5 : ¬ K % 8 < 5 := by omega
  go_wp2_with fail
  refine (HF.out.1.next V1 E2).mono ?_
  rintro e w3 ⟨rfl, D3, t3⟩
  have o3 := ob_keptR HF.out.2 t3 hr
  clear t3 HF
  go_wp2_with fail
  refine (D3.next V2 E3).mono ?_
  rintro e w4 ⟨rfl, D4, t4⟩
  have o4 := ob_keptR o3 t4 hr
  have hvm : (V1 * 256 + V2).tmod (m : Int) = (p : Int) := by rw [Int.tmod_eq_emod_of_nonneg (by omega), hp]
  have hpm : p < m := by have := Int.emod_lt_of_pos (V1 * 256 + V2) (show (0 : Int) < (m : Int) by omega); omega
  have hpm' : (p : Int) < (m : Int) := by omega
  have hpe : (V1 * 256 + V2) % (m : Int) = (p : Int) := hp.symm
  have hpl : p ≤ m := by omega
  have hpl' : (p : Int) ≤ (m : Int) := by omega
  have hcap : m ≤ cap := o4.bs.2.2.2.2
  have HF := hide (And.intro D4 o4)
  clear t4 o3 D3 D4 hp E2 E3
  go_wp2
  go_ret
  exact ⟨g, p, cap, rfl, HF.out.1, ob_takeN o4 p hpl⟩
set_option maxHeartbeats 2000000 in
theorem img_c (zs : List Int) (k : Nat) (K : Int) (E1 : Hid (zs.getD k 0 = K)) (z0 : 0 ≤ K) (z1 : K ≤ 255) (P : PMod) (DP : DoR P) (L : Nat) (hL : (encB P).length = L) (hLs : L ≤ 5000) (h0 : 0 < L) (V1 V2 : Int) (E2 : Hid (zs.getD (k + 1) 0 = V1)) (E3 : Hid (zs.getD (k + 1 + 1) 0 = V2)) (a0 : 0 ≤ V1) (a1 : V1 ≤ 255) (b0 : 0 ≤ V2) (b1 : V2 ≤ 255) (p : Nat) (hp : (p : Int) = (V1 * 256 + V2) % (L : Int)) (hk : K % 8 = 6) (V3 : Int) (E4 : Hid (zs.getD (k + 1 + 1 + 1) 0 = V3)) (c0 : 0 ≤ V3) (c1 : V3 ≤ 255) : ImgFn zs k P ((encB P).set p V3) (k + 1 + 1 + 1 + 1) := by
  intro w W r a n c M D o ds
  have al := al_below W (.cells #[.string P.nm, .slice M.a1 P.tz.length M.c1, .slice M.a2 M.bl.length M.c2, .slice M.a3 P.dz.length M.c3, .int .i64 P.bss, .slice M.a5 P.rz.length M.c5, .slice M.a6 P.ss.length M.c6, .slice M.a7 P.es.length M.c7] 29)
  have kb := Blk.new W #[.string P.nm, .slice M.a1 P.tz.length M.c1, .slice M.a2 M.bl.length M.c2, .slice M.a3 P.dz.length M.c3, .int .i64 P.bss, .slice M.a5 P.rz.length M.c5, .slice M.a6 P.ss.length M.c6, .slice M.a7 P.es.length M.c7] 29
  have D0 := D.below al
  have mo0 := o.below al
  have hs0 := D.sz
  have hr := D.lt
  clear al D o
  go_enter Try.func20, Try.ntmps20
  go_wp2_with fail
  refine (D0.next K E1).mono ?_
  rintro e w1 ⟨rfl, D1, t1⟩
  have mo1 := mo0.kept t1 (fun j hj => .inl (by subst hj; exact hr))
  obtain ⟨x0, x1, x2, x3, x4, x5, x6, x7⟩ := (turn_blk t1 kb (by omega)).eight'
  have HS := hide (sEnc_out mo1 DP ds)
  clear D0 mo0 kb t1 mo1 ds E1
  go_wp2_with fail
  refine HS.out.mono ?_
  rintro e w2 ⟨g, m, cap, rfl, ob, b2⟩
  have hm : m = L := by rw [← hL]; exact ob.bs.1.symm
  subst hm
  have HF := hide (And.intro (D1.below b2) (ob.mono D1.sz))
  clear D1 b2 ob HS x0 x1 x2 x3 x4 x5 x6 x7 hL
  have hn0 : ¬ m = 0 := by omega
  have hn1 : ¬ (m : Int) = 0 := by omega
  have hk5 : ¬ K % 8 < 5 := by omega
  go_wp2_with fail
  refine (HF.out.1.next V1 E2).mono ?_
  rintro e w3 ⟨rfl, D3, t3⟩
  have o3 := ob_keptR HF.out.2 t3 hr
  clear t3 HF
  go_wp2_with fail
  refine (D3.next V2 E3).mono ?_
  rintro e w4 ⟨rfl, D4, t4⟩
  have o4 := ob_keptR o3 t4 hr
  have hvm : (V1 * 256 + V2).tmod (m : Int) = (p : Int) := by rw [Int.tmod_eq_emod_of_nonneg (by omega), hp]
  have hpm : p < m := by have := Int.emod_lt_of_pos (V1 * 256 + V2) (show (0 : Int) < (m : Int) by omega); omega
  have hpm' : (p : Int) < (m : Int) := by omega
  have hpe : (V1 * 256 + V2) % (m : Int) = (p : Int) := hp.symm
  have hpl : p ≤ m := by omega
  have hpl' : (p : Int) ≤ (m : Int) := by omega
  have hcap : m ≤ cap := o4.bs.2.2.2.2
  have HF := hide (And.intro D4 o4)
  clear t4 o3 D3 D4 hp E2 E3
  go_wp2_with fail
  refine (HF.out.1.next V3 E4).mono ?_
  rintro e w5 ⟨rfl, D5, t5⟩
  have o5 := ob_keptR o4 t5 hr
  obtain ⟨q, hq⟩ : ∃ q, w5.cell? ⟨g, p, none⟩ = some q := ⟨_, by have := o5.bs.at p hpm; rw [Nat.zero_add] at this; exact this⟩
  obtain ⟨cs, kc⟩ := own_kind o5.1 (k := g) rfl
  have fq := kc.frozen p
  have hg := (o5.lt g rfl).1
  have HF := hide (And.intro (D5.set hg p (.int .u8 V3)) (ob_setN o5 p V3 ⟨c0, c1⟩))
  clear t5 o4 o5 D5 kc
  go_wp2
  go_ret
  exact ⟨g, m, cap, rfl, HF.out.1, HF.out.2⟩
set_option maxHeartbeats 2000000 in
theorem img_d (zs : List Int) (k : Nat) (K : Int) (E1 : Hid (zs.getD k 0 = K)) (z0 : 0 ≤ K) (z1 : K ≤ 255) (P : PMod) (DP : DoR P) (L : Nat) (hL : (encB P).length = L) (hLs : L ≤ 5000) (h0 : 0 < L) (V1 V2 : Int) (E2 : Hid (zs.getD (k + 1) 0 = V1)) (E3 : Hid (zs.getD (k + 1 + 1) 0 = V2)) (a0 : 0 ≤ V1) (a1 : V1 ≤ 255) (b0 : 0 ≤ V2) (b1 : V2 ≤ 255) (p : Nat) (hp : (p : Int) = (V1 * 256 + V2) % (L : Int)) (hk : K % 8 = 7) : ImgFn zs k P (encB P ++ [K]) (k + 1 + 1 + 1) := by
  intro w W r a n c M D o ds
  have al := al_below W (.cells #[.string P.nm, .slice M.a1 P.tz.length M.c1, .slice M.a2 M.bl.length M.c2, .slice M.a3 P.dz.length M.c3, .int .i64 P.bss, .slice M.a5 P.rz.length M.c5, .slice M.a6 P.ss.length M.c6, .slice M.a7 P.es.length M.c7] 29)
  have kb := Blk.new W #[.string P.nm, .slice M.a1 P.tz.length M.c1, .slice M.a2 M.bl.length M.c2, .slice M.a3 P.dz.length M.c3, .int .i64 P.bss, .slice M.a5 P.rz.length M.c5, .slice M.a6 P.ss.length M.c6, .slice M.a7 P.es.length M.c7] 29
  have D0 := D.below al
  have mo0 := o.below al
  have hs0 := D.sz
  have hr := D.lt
  clear al D o
  go_enter Try.func20, Try.ntmps20
  go_wp2_with fail
  refine (D0.next K E1).mono ?_
  rintro e w1 ⟨rfl, D1, t1⟩
  have mo1 := mo0.kept t1 (fun j hj => .inl (by subst hj; exact hr))
  obtain ⟨x0, x1, x2, x3, x4, x5, x6, x7⟩ := (turn_blk t1 kb (by omega)).eight'
  have HS := hide (sEnc_out mo1 DP ds)
  clear D0 mo0 kb t1 mo1 ds E1
  go_wp2_with fail
  refine HS.out.mono ?_
  rintro e w2 ⟨g, m, cap, rfl, ob, b2⟩
  have hm : m = L := by rw [← hL]; exact ob.bs.1.symm
  subst hm
  have HF := hide (And.intro (D1.below b2) (ob.mono D1.sz))
  clear D1 b2 ob HS x0 x1 x2 x3 x4 x5 x6 x7 hL
  have hn0 : ¬ m = 0 := by omega
  have hn1 : ¬ (m : Int) = 0 := by omega
  have hk5 : ¬ K % 8 < 5 := by omega
  go_wp2_with fail
  refine (HF.out.1.next V1 E2).mono ?_
  rintro e w3 ⟨rfl, D3, t3⟩
  have o3 := ob_keptR HF.out.2 t3 hr
  clear t3 HF
  go_wp2_with fail
  refine (D3.next V2 E3).mono ?_
  rintro e w4 ⟨rfl, D4, t4⟩
  have o4 := ob_keptR o3 t4 hr
  have hvm : (V1 * 256 + V2).tmod (m : Int) = (p : Int) := by rw [Int.tmod_eq_emod_of_nonneg (by omega), hp]
  have hpm : p < m := by have := Int.emod_lt_of_pos (V1 * 256 + V2) (show (0 : Int) < (m : Int) by omega); omega
  have hpm' : (p : Int) < (m : Int) := by omega
  have hpe : (V1 * 256 + V2) % (m : Int) = (p : Int) := hp.symm
  have hpl : p ≤ m := by omega
  have hpl' : (p : Int) ≤ (m : Int) := by omega
  have hcap : m ≤ cap := o4.bs.2.2.2.2
  have HF := hide (And.intro D4 o4)
  clear t4 o3 D3 D4 hp E2 E3
  obtain ⟨i8, hi8, hz0i8, hz1i8, hz2i8⟩ := info_parts info8
  have al := al_below w4 (.cells #[.int .u8 K] 5)
  have o5 := o4.below al
  have HO := hide o5.1
  rw [o5.bs.1] at HO
  have HN := hide (cells_new w4 _ 5 [.int .u8 K] rfl)
  have hS := (HF.out.1.below al).sz
  have HD := hide (HF.out.1.below al)
  have HOB := hide o5
  clear al o4 o5
  go_wp2_with (at_builtin; refine wpList_append_lies _ rfl _ _ 22 rfl w.heap.size 5 i8 (.int .u8 0) 1 1 Try.underlying22 hi8 hz0i8 hz1i8 hz2i8 rfl (by decide) (.slice (some ⟨g, 0, none⟩) m cap) m ((encB P).map (Value.int .u8)) rfl HO.out ⟨w4.heap.size, 0, none⟩ 1 1 [.int .u8 K] rfl rfl HN.out (by intro u hu; simp at hu; subst hu; rfl) (by decide) (by unfold maxLen; omega) (by omega) hS _ rfl ?_; intro g4 c4 w5 hown hgr hat hlt4)
  have HG := hide (And.intro (HD.out.grown hgr (fun j hj => (HOB.out.lt j hj).1)) (show OB w5 w.heap.size (.slice (some ⟨g4, 0, none⟩) (m + 1) c4) (encB P ++ [K]) from ⟨by rw [List.length_append, HOB.out.bs.1, List.map_append]; exact hown, fun z hz => by rcases List.mem_append.1 hz with hz | hz; exact HOB.out.2 z hz; simp at hz; subst hz; exact ⟨z0, z1⟩⟩))
  go_wp2
  go_ret
  exact ⟨g4, m + 1, c4, rfl, HG.out.1, HG.out.2⟩
theorem encB_facts {P : PMod} (DP : DoR P) : Byt (encB P) ∧ (encB P).length ≤ 5000 := by
  unfold encB
  by_cases hv : mdoP P = 0
  · rw [if_pos hv]
    refine ⟨encP_byt DP.d.2, ?_⟩
    have := encQ_len (vp_of hv)
    rw [encP_eq]
    simp
    omega
  · rw [if_neg hv]
    exact ⟨fun z hz => by simp at hz, by simp⟩
theorem l4Image_fn (zs : List Int) (hz : ∀ j, 0 ≤ zs.getD j 0 ∧ zs.getD j 0 ≤ 255) (k : Nat) (P : PMod) (DP : DoR P) : ∃ y : List Int × Nat, (Byt y.1 ∧ y.1.length ≤ 5001) ∧ ImgFn zs k P y.1 y.2 := by
  obtain ⟨K, E1, z0, z1⟩ := draw_of hz k
  obtain ⟨V1, E2, a0, a1⟩ := draw_of hz (k + 1)
  obtain ⟨V2, E3, b0, b1⟩ := draw_of hz (k + 1 + 1)
  obtain ⟨V3, E4, c0, c1⟩ := draw_of hz (k + 1 + 1 + 1)
  obtain ⟨hb, hl⟩ := encB_facts DP
  by_cases h0 : (encB P).length = 0
  · exact ⟨(encB P, k + 1), ⟨hb, by show (encB P).length ≤ 5001; omega⟩, img_0 zs k K E1 z0 z1 P DP _ rfl hl h0⟩
  have h0' : 0 < (encB P).length := by omega
  obtain ⟨p, hp⟩ : ∃ p : Nat, (p : Int) = (V1 * 256 + V2) % ((encB P).length : Int) := ⟨((V1 * 256 + V2) % ((encB P).length : Int)).toNat, by have := Int.emod_nonneg (V1 * 256 + V2) (show ((encB P).length : Int) ≠ 0 by omega); omega⟩
  rcases (show K % 8 < 5 ∨ K % 8 = 5 ∨ K % 8 = 6 ∨ K % 8 = 7 by omega) with hk | hk | hk | hk
  · exact ⟨(encB P, k + 1), ⟨hb, by show (encB P).length ≤ 5001; omega⟩, img_a zs k K E1 z0 z1 P DP _ rfl hl h0' hk⟩
  · refine ⟨(_, _), ⟨?_, ?_⟩, img_b zs k K E1 z0 z1 P DP _ rfl hl h0' V1 V2 E2 E3 a0 a1 b0 b1 p hp hk⟩
    · exact fun z hz => hb z (List.mem_of_mem_take hz)
    · show ((encB P).take p).length ≤ 5001
      simp
      omega
  · refine ⟨(_, _), ⟨?_, ?_⟩, img_c zs k K E1 z0 z1 P DP _ rfl hl h0' V1 V2 E2 E3 a0 a1 b0 b1 p hp hk V3 E4 c0 c1⟩
    · intro z hz
      rcases List.mem_or_eq_of_mem_set hz with hz | rfl
      · exact hb z hz
      · exact ⟨c0, c1⟩
    · show ((encB P).set p V3).length ≤ 5001
      simp
      omega
  · refine ⟨(_, _), ⟨?_, ?_⟩, img_d zs k K E1 z0 z1 P DP _ rfl hl h0' V1 V2 E2 E3 a0 a1 b0 b1 p hp hk⟩
    · intro z hz
      rcases List.mem_append.1 hz with hz | hz
      · exact hb z hz
      · simp at hz; subst hz; exact ⟨z0, z1⟩
    · show (encB P ++ [K]).length ≤ 5001
      simp
      omega
theorem prs_two {zs : List Int} (hz : Byt zs) (h : zs.length ≤ 20000 ∧ 2 ≤ zs.length ∧ zs.getD 0 0 = 88 ∧ zs.getD 1 0 = 77) : prs2 zs = prs zs := by
  unfold prs
  rw [if_neg (by omega), if_neg (by rw [(mark_of hz).2 ⟨h.2.1, h.2.2.1, h.2.2.2⟩]; decide)]
  rfl
theorem sParseModule_any (b n cap : Nat) (zs : List Int) (w : World) (h : BS w (some ⟨b, 0, none⟩) n cap zs) (hn : n ≤ 1048576) (hb : b < w.heap.size) :
    Calls Try.prog 6 #[.slice (some ⟨b, 0, none⟩) n cap] w (PaPost w (prs zs)) := by
  have hl := h.1
  by_cases c : n ≤ 20000 ∧ 2 ≤ n ∧ zs.getD 0 0 = 88 ∧ zs.getD 1 0 = 77
  · rw [← prs_two h.2.2.1 (by rw [hl]; exact c)]
    exact sParse_good b n cap zs w h c.1 hb c.2.1 c.2.2.1 c.2.2.2
  · exact sParse_bad b n cap zs w h hn hb c
def P0 : PMod := ⟨⟨#[]⟩, [], [], [], 0, [], [], []⟩
def pOf (zs : List Int) : PMod := (prs zs).2.getD P0
theorem pm_zero : PmR P0 where
  n := by decide
  t := by simp [P0]
  b := by simp [P0]
  d := ⟨by simp [P0], fun z hz => by simp [P0] at hz⟩
  s := by simp [P0]
  r := by simp [P0]
  i := by simp [P0]
  e := by simp [P0]
theorem mo_zero (W : World) (base : Nat) : ModO W base P0 none 0 none 0 [] none 0 none 0 none 0 none 0 :=
  ⟨og_nil _ _ _ _ _, obk_nil _ _, rfl, ⟨⟨rfl, .inl ⟨rfl, rfl⟩⟩, fun z hz => by simp [P0] at hz⟩, og_nil _ _ _ _ _, og_nil _ _ _ _ _, og_nil _ _ _ _ _, fun k hk => by simp [Value.ownBlock] at hk, fun k hk => by simp [Value.ownBlock] at hk, fun k hk => by simp [Value.ownBlock] at hk⟩
def szP (P : PMod) : Nat := P.tz.length + P.bl.length + (P.bl.map List.length).sum + P.dz.length + P.rz.length + P.ss.length + P.es.length
theorem prs_some {zs : List Int} {c : Int} {P : PMod} (h : prs zs = (c, some P)) : c = 0 ∧ mdoP P = 0 ∧ ∃ r, pMod (zs.drop 2) = some (P, r) := by
  unfold prs at h
  split at h
  · simp at h
  split at h
  · simp at h
  split at h
  · simp at h
  · rename_i x hx
    split at h
    · simp at h
    split at h
    · simp at h
    · rename_i h1 h2
      simp at h
      obtain ⟨rfl, rfl⟩ := h
      exact ⟨rfl, by simpa using h2, x.2, by rw [hx]⟩
theorem sum_le_mul : ∀ (l : List Nat) (m : Nat), (∀ x ∈ l, x ≤ m) → l.sum ≤ l.length * m
  | [], m, h => by simp
  | x :: xs, m, h => by
    have h1 := h x (by simp)
    have h2 := sum_le_mul xs m (fun y hy => h y (by simp [hy]))
    simp only [List.sum_cons, List.length_cons]
    rw [Nat.add_mul]
    omega
theorem pOf_facts {zs : List Int} (hz : Byt zs) : PmR (pOf zs) ∧ szP (pOf zs) ≤ 2000 := by
  unfold pOf
  cases e : (prs zs).2 with
  | none => exact ⟨pm_zero, by show szP P0 ≤ 2000; decide⟩
  | some P =>
    show PmR P ∧ szP P ≤ 2000
    have e' : prs zs = ((prs zs).1, some P) := by rw [← e]
    obtain ⟨_, h2, r, h3⟩ := prs_some e'
    refine ⟨(pm_of (hz.drop 2) h3).1, ?_⟩
    unfold mdoP at h2
    have V := vm_of_mdo (by simp [bkOf]) h2
    have hb : (P.bl.map List.length).sum ≤ P.bl.length * 64 := by
      have := sum_le_mul (P.bl.map List.length) 64 (fun x hx => by
        rw [List.mem_map] at hx
        obtain ⟨l, hl, rfl⟩ := hx
        obtain ⟨i, hi, rfl⟩ := List.getElem_of_mem hl
        have := (V.bw i (by simp [bkOf]; exact hi)).1
        simpa [bkOf, List.getD_eq_getElem?_getD, hi] using this)
      simpa using this
    have h1 := V.t
    have h4 := V.b
    have h5 := V.d
    have h6 := V.r
    have h7 := V.i
    have h8 := V.e
    unfold szP
    omega
def PaM (w : World) (zs : List Int) (e : Ending) (w' : World) : Prop := Below w.heap.size w w' ∧ ∃ a1 c1 a2 c2 bl a3 c3 a5 c5 a6 c6 a7 c7, e = .returned (.tuple #[.agg (modV (pOf zs) a1 c1 a2 c2 bl a3 c3 a5 c5 a6 c6 a7 c7), .int .i64 (prs zs).1]) ∧ ModO w' w.heap.size (pOf zs) a1 c1 a2 c2 bl a3 c3 a5 c5 a6 c6 a7 c7
theorem pa_mod {w w' : World} {zs : List Int} {e : Ending} (h : PaPost w (prs zs) e w') : PaM w zs e w' := by
  obtain ⟨hb, h⟩ := h
  refine ⟨hb, ?_⟩
  unfold pOf
  cases ep : (prs zs).2 with
  | none =>
    rw [ep] at h
    exact ⟨none, 0, none, 0, [], none, 0, none, 0, none, 0, none, 0, h, mo_zero _ _⟩
  | some P =>
    rw [ep] at h
    exact h
def bkF (bl : List Bk) (i : Nat) : Option Addr × Nat × Nat := ((bl.getD i zB).1, (bl.getD i zB).2.1, (bl.getD i zB).2.2.1)
def bkX (bl : List Bk) (i : Nat) : List Int := (bl.getD i zB).2.2.2
theorem og_oi {w : World} {base : Nat} {v : Value} {xs : List Int} (h : OG 3 1 clI w base v xs) (hx : ∀ z ∈ xs, wfi z) : OI w base v xs := by
  unfold OG at h
  rw [flat_clI] at h
  exact ⟨h, hx⟩
theorem sumB_bkF (bl : List Bk) : ∀ n, n ≤ bl.length → sumB (bkF bl) n = ((bl.take n).map fun B => B.2.1).sum
  | 0, _ => by simp [sumB]
  | n + 1, h => by
    show sumB (bkF bl) n + (bkF bl n).2.1 = _
    have e : (bkF bl n).2.1 = (bl[n]'(by omega)).2.1 := by simp [bkF, List.getD_eq_getElem?_getD, show n < bl.length by omega]
    rw [sumB_bkF bl n (by omega), List.take_add_one, List.getElem?_eq_getElem (by omega), e]
    simp only [Option.toList_some, List.map_append, List.map_cons, List.map_nil, List.sum_append, List.sum_cons, List.sum_nil, Nat.add_zero]
theorem obk_rr {w : World} {base c : Nat} {a : Option Addr} {bl : List Bk} (h : OBk w base (.slice a bl.length c) bl) (hx : ∀ B ∈ bl, ∀ z ∈ B.2.2.2, wfi z) : Rr w base a bl.length (bkF bl) (bkX bl) := by
  have hmem : ∀ i, i < bl.length → bl.getD i zB ∈ bl := fun i hi => by simp [List.getD_eq_getElem?_getD, hi]
  have rows : ∀ i, i < bl.length → OI w base (.slice (bkF bl i).1 (bkF bl i).2.1 (bkF bl i).2.2) (bkX bl i) := fun i hi => og_oi (h.rows _ (hmem i hi)).2 (hx _ (hmem i hi))
  refine ⟨fun hn => ?_, rows, fun i j hi hj hij k hk => ?_⟩
  · obtain ⟨hl, ⟨h0, h1⟩ | ⟨g, cap, cur, hv, hg, hh, h1, h2, h3, h4⟩⟩ := h.head
    · exact absurd h1 hn
    · simp at hv
      refine ⟨g, cur, hv.1, fun ⟨i, hi, e⟩ => ?_, hh, fun i hi => ?_⟩
      · obtain ⟨c1, k1⟩ := own_kind (rows i hi).1 e
        exact absurd (blk_kind k1 hh) (by decide)
      · have : (cur.toList.take (bl.length * 1))[i]? = (bl.map fun B => Value.slice B.1 B.2.1 B.2.2.1)[i]? := by rw [h4]
        rw [List.getElem?_take] at this
        rw [if_pos (by omega)] at this
        rw [← Array.getElem?_toList, this]
        simp [bkF, List.getD_eq_getElem?_getD, hi]
  · have hp := List.pairwise_iff_getElem.1 h.apart
    have gi : bl.getD i zB = bl[i] := by simp [List.getD_eq_getElem?_getD, hi]
    have gj : bl.getD j zB = bl[j] := by simp [List.getD_eq_getElem?_getD, hj]
    unfold bkF at hk ⊢
    rw [gi] at hk
    rw [gj]
    rcases Nat.lt_or_gt_of_ne hij with h' | h'
    · exact hp i j hi hj h' k hk
    · exact fun e => hp j i hj hi h' k e hk
theorem ModO.m6 {W : World} {base : Nat} {P : PMod} {a1 : Option Addr} {c1 : Nat} {a2 : Option Addr} {c2 : Nat} {bl : List Bk} {a3 : Option Addr} {c3 : Nat} {a5 : Option Addr} {c5 : Nat} {a6 : Option Addr} {c6 : Nat} {a7 : Option Addr} {c7 : Nat} (h : ModO W base P a1 c1 a2 c2 bl a3 c3 a5 c5 a6 c6 a7 c7) (R : PmR P) :
    M6 W base (.slice a1 P.tz.length c1) (.slice a3 P.dz.length c3) (.slice a5 P.rz.length c5) (.slice a6 P.ss.length c6) (.slice a7 P.es.length c7) a2 bl.length (bkF bl) P.tz (bkX bl) P.dz P.rz P.ss P.es where
  t := og_oi h.t (fun z hz => wd_wfi (R.t.2 z hz))
  b := obk_rr h.b (fun B hB z hz => by
    have hm : B.2.2.2 ∈ P.bl := by rw [← h.bls]; exact List.mem_map.2 ⟨B, hB, rfl⟩
    exact wd_wfi ((R.b.2 _ hm).2 z hz))
  d := h.d
  r := og_oi h.r (fun z hz => by have := R.r.2 z hz; unfold wfi; omega)
  i := h.i
  e := h.e
  tr := h.tr
  tb := fun k hk ⟨i, hi, e⟩ => h.tb k hk _ (by simp [List.getD_eq_getElem?_getD, hi]) e
  rb := fun k hk ⟨i, hi, e⟩ => h.br k hk _ (by simp [List.getD_eq_getElem?_getD, hi]) e
theorem ModO.sum {W : World} {base : Nat} {P : PMod} {a1 : Option Addr} {c1 : Nat} {a2 : Option Addr} {c2 : Nat} {bl : List Bk} {a3 : Option Addr} {c3 : Nat} {a5 : Option Addr} {c5 : Nat} {a6 : Option Addr} {c6 : Nat} {a7 : Option Addr} {c7 : Nat} (h : ModO W base P a1 c1 a2 c2 bl a3 c3 a5 c5 a6 c6 a7 c7) : sumB (bkF bl) bl.length = (P.bl.map List.length).sum ∧ bl.length = P.bl.length := by
  refine ⟨?_, by rw [← h.bls, List.length_map]⟩
  rw [sumB_bkF bl bl.length (Nat.le_refl _), List.take_length, ← h.bls, List.map_map]
  congr 1
  apply List.map_congr_left
  intro B hB
  exact (h.b.rows B hB).1
end Go.Proofs.Ytngdgogjlpjjpad
