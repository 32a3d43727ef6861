import Derived.Test.YtngdgogjlpjjpaeGreatGa08
import Derived.Test.YtngdgogjlpjjpaeGreatGa09
import Derived.Deep.RegionHeld3
namespace Go.Proofs.YtngdgogjlpjjpaeGreat
open Go.RowKit
set_option linter.unusedVariables false
set_option linter.unusedSimpArgs false
set_option maxRecDepth 100000

set_option maxHeartbeats 4000000 in
theorem eqModule_same (nm : ByteArray) (ta ta' : Option Addr) (tn tc tc' : Nat) (tz : List Int) (ba ba' : Option Addr) (bn bc bc' : Nat) (bl bl' : List Bk) (da da' : Option Addr) (dn dc dc' : Nat) (dz : List Int) (bss : Int) (ra ra' : Option Addr) (rn rc rc' : Nat) (rz : List Int) (ia ia' : Option Addr) (im ic ic' : Nat) (ss : List ByteArray) (ea ea' : Option Addr) (en ec ec' : Nat) (es : List Ex) (w : World) (h : MT w nm ta tn tc tz ba bn bc bl da dn dc dz bss ra rn rc rz ia im ic ss ea en ec es) (h' : MT w nm ta' tn tc' tz ba' bn bc' bl' da' dn dc' dz bss ra' rn rc' rz ia' im ic' ss ea' en ec' es) (hz : ∀ i, i < bn → (bl'.getD i zB).2.1 = (bl.getD i zB).2.1 ∧ (bl'.getD i zB).2.2.2 = (bl.getD i zB).2.2.2) :
    Calls Tryz.prog 58 #[.agg #[.string nm, .slice ta tn tc, .slice ba bn bc, .slice da dn dc, .int .i64 bss, .slice ra rn rc, .slice ia im ic, .slice ea en ec], .agg #[.string nm, .slice ta' tn tc', .slice ba' bn bc', .slice da' dn dc', .int .i64 bss, .slice ra' rn rc', .slice ia' im ic', .slice ea' en ec']] w fun e w' => e = .returned (.bool true) ∧ Below w.heap.size w w' := by
  have hB0 : Below w.heap.size w ((w.alloc (.cells #[.string nm, .slice ta tn tc, .slice ba bn bc, .slice da dn dc, .int .i64 bss, .slice ra rn rc, .slice ia im ic, .slice ea en ec] 104)).alloc (.cells #[.string nm, .slice ta' tn tc', .slice ba' bn bc', .slice da' dn dc', .int .i64 bss, .slice ra' rn rc', .slice ia' im ic', .slice ea' en ec'] 104)) := ((Below.refl _ _).alloc (Nat.le_refl _) _).alloc (by simp) _
  have u0 := (Blk.new w #[.string nm, .slice ta tn tc, .slice ba bn bc, .slice da dn dc, .int .i64 bss, .slice ra rn rc, .slice ia im ic, .slice ea en ec] 104).alloc (.cells #[.string nm, .slice ta' tn tc', .slice ba' bn bc', .slice da' dn dc', .int .i64 bss, .slice ra' rn rc', .slice ia' im ic', .slice ea' en ec'] 104)
  have v0 := Blk.new (w.alloc (.cells #[.string nm, .slice ta tn tc, .slice ba bn bc, .slice da dn dc, .int .i64 bss, .slice ra rn rc, .slice ia im ic, .slice ea en ec] 104)) #[.string nm, .slice ta' tn tc', .slice ba' bn bc', .slice da' dn dc', .int .i64 bss, .slice ra' rn rc', .slice ia' im ic', .slice ea' en ec'] 104
  simp only [World.size_alloc] at v0
  have hn : (nm.toList != nm.toList) = false := by simp
  have hs : (bss != bss) = false := by simp
  go_enter Tryz.func58, Tryz.ntmps58
  go_wp2_with fail
  refine (eqIntS_any ta ta' tn tc tn tc' tz tz _ (h.t.below hB0) (h'.t.below hB0)).mono ?_
  rw [decide_eq_true rfl]
  rintro e w1 ⟨rfl, hb⟩
  have hB1 := hB0.trans (hb.mono (by have := hB0.size; simp; omega))
  have u1 := u0.below hb
  have v1 := v0.below hb
  clear hb u0 v0
  obtain ⟨q0, q1, q2, q3, q4, q5, q6, q7⟩ := u1.eight
  obtain ⟨p0, p1, p2, p3, p4, p5, p6, p7⟩ := v1.eight
  go_wp2_with fail
  refine (eqIntSS_same ba ba' bn bc bc' bl bl' _ (h.b.below hB1) (h'.b.below hB1) hz).mono ?_
  rintro e w2 ⟨rfl, hb⟩
  have hB2 := hB1.trans (hb.mono (by have := hB1.size; omega))
  have u2 := u1.below hb
  have v2 := v1.below hb
  clear hb u1 v1 q0 q1 q2 q3 q4 q5 q6 q7 p0 p1 p2 p3 p4 p5 p6 p7
  obtain ⟨q0, q1, q2, q3, q4, q5, q6, q7⟩ := u2.eight
  obtain ⟨p0, p1, p2, p3, p4, p5, p6, p7⟩ := v2.eight
  go_wp2_with fail
  refine (eqByteS_any da da' dn dc dn dc' dz dz _ (h.d.below hB2) (h'.d.below hB2)).mono ?_
  rw [decide_eq_true rfl]
  rintro e w3 ⟨rfl, hb⟩
  have hB3 := hB2.trans (hb.mono (by have := hB2.size; omega))
  have u3 := u2.below hb
  have v3 := v2.below hb
  clear hb u2 v2 q0 q1 q2 q3 q4 q5 q6 q7 p0 p1 p2 p3 p4 p5 p6 p7
  obtain ⟨q0, q1, q2, q3, q4, q5, q6, q7⟩ := u3.eight
  obtain ⟨p0, p1, p2, p3, p4, p5, p6, p7⟩ := v3.eight
  go_wp2_with fail
  refine (eqIntS_any ra ra' rn rc rn rc' rz rz _ (h.r.below hB3) (h'.r.below hB3)).mono ?_
  rw [decide_eq_true rfl]
  rintro e w4 ⟨rfl, hb⟩
  have hB4 := hB3.trans (hb.mono (by have := hB3.size; omega))
  have u4 := u3.below hb
  have v4 := v3.below hb
  clear hb u3 v3 q0 q1 q2 q3 q4 q5 q6 q7 p0 p1 p2 p3 p4 p5 p6 p7
  obtain ⟨q0, q1, q2, q3, q4, q5, q6, q7⟩ := u4.eight
  obtain ⟨p0, p1, p2, p3, p4, p5, p6, p7⟩ := v4.eight
  go_wp2_with fail
  refine (eqStringS_same ia ia' im ic ic' ss _ (h.i.below hB4) (h'.i.below hB4)).mono ?_
  rintro e w5 ⟨rfl, hb⟩
  have hB5 := hB4.trans (hb.mono (by have := hB4.size; omega))
  have u5 := u4.below hb
  have v5 := v4.below hb
  clear hb u4 v4 q0 q1 q2 q3 q4 q5 q6 q7 p0 p1 p2 p3 p4 p5 p6 p7
  obtain ⟨q0, q1, q2, q3, q4, q5, q6, q7⟩ := u5.eight
  obtain ⟨p0, p1, p2, p3, p4, p5, p6, p7⟩ := v5.eight
  go_wp2_with fail
  refine (eqExportS_same ea ea' en ec ec' es _ (h.e.below hB5) (h'.e.below hB5)).mono ?_
  rintro e w6 ⟨rfl, hb⟩
  have hB6 := hB5.trans (hb.mono (by have := hB5.size; omega))
  have u6 := u5.below hb
  have v6 := v5.below hb
  clear hb u5 v5 q0 q1 q2 q3 q4 q5 q6 q7 p0 p1 p2 p3 p4 p5 p6 p7
  obtain ⟨q0, q1, q2, q3, q4, q5, q6, q7⟩ := u6.eight
  obtain ⟨p0, p1, p2, p3, p4, p5, p6, p7⟩ := v6.eight
  go_wp2
  go_ret
  exact ⟨rfl, hB6⟩

theorem mt_of_rows {nm : ByteArray} {ta : Option Addr} {tn tc : Nat} {tz : List Int} {ba : Option Addr} {bn bc : Nat} {bl : List Bk} {da : Option Addr} {dn dc : Nat} {dz : List Int} {bss : Int} {ra : Option Addr} {rn rc : Nat} {rz : List Int} {ia : Option Addr} {im ic : Nat} {ss : List ByteArray} {ea : Option Addr} {en ec : Nat} {es : List Ex} {w W : World} {g1 g2 g3 g5 g6 g7 : Nat} {gs : List Nat} (h : MT w nm ta tn tc tz ba bn bc bl da dn dc dz bss ra rn rc rz ia im ic ss ea en ec es) (hg : gs.length = bn)
    (r1 : RowI W g1 tz) (r2 : RowB W g2 bn gs bl) (r3 : Row8 W g3 dz) (r5 : RowI W g5 rz) (r6 : RowT W g6 ss) (r7 : RowX W g7 es) : MT W nm (some ⟨g1, 0, none⟩) tn tn tz (some ⟨g2, 0, none⟩) bn bn (reb gs bl) (some ⟨g3, 0, none⟩) dn dn dz bss (some ⟨g5, 0, none⟩) rn rn rz (some ⟨g6, 0, none⟩) im im ss (some ⟨g7, 0, none⟩) en en es where
  n := h.n
  t := r1.is (by rw [h.t.1]; exact h.t.2.1) h.t.2.2.1 _ _ h.t.1
  b := r2.bks h.b hg
  d := r3.bs (by rw [h.d.1]; exact h.d.2.1) h.d.2.2.1 _ _ h.d.1
  s := h.s
  r := r5.is (by rw [h.r.1]; exact h.r.2.1) h.r.2.2.1 _ _ h.r.1
  i := ⟨h.i.1, h.i.2.1, h.i.2.2.1, fun _ => ⟨g6, 0, rfl, fun i hi => by rw [Nat.zero_add]; exact r6.cell i (by rw [h.i.1]; exact hi)⟩, Nat.le_refl _⟩
  e := r7.te h.e
theorem md_of_mt {nm : ByteArray} {ta : Option Addr} {tn tc : Nat} {tz : List Int} {ba : Option Addr} {bn bc : Nat} {bl : List Bk} {da : Option Addr} {dn dc : Nat} {dz : List Int} {bss : Int} {ra : Option Addr} {rn rc : Nat} {rz : List Int} {ia : Option Addr} {im ic : Nat} {ss : List ByteArray} {ea : Option Addr} {en ec : Nat} {es : List Ex} {w : World} (h : MT w nm ta tn tc tz ba bn bc bl da dn dc dz bss ra rn rc rz ia im ic ss ea en ec es) (hs : mdSize nm tn bn bl dn rn im ss en es ≤ 1048576) : MD w nm ta tn tc tz ba bn bc bl da dn dc dz bss ra rn rc rz ia im ic ss ea en ec es where
  n := by unfold mdSize at hs; omega
  t := h.t
  b := h.b
  d := h.d
  s := h.s
  r := h.r
  i := h.i.ss (by unfold mdSize at hs; omega)
  e := h.e.es (by unfold mdSize at hs; omega)
theorem reb_size (gs : List Nat) (nm : ByteArray) (tn bn : Nat) (bl : List Bk) (dn rn im : Nat) (ss : List ByteArray) (en : Nat) (es : List Ex) (h : bl.length = bn) : mdSize nm tn bn (reb gs bl) dn rn im ss en es = mdSize nm tn bn bl dn rn im ss en es := by
  have key : ∀ k, k ≤ bn → upS (fun j => ((reb gs bl).getD j zB).2.1) k = upS (fun j => (bl.getD j zB).2.1) k := by
    intro k
    induction k with
    | zero => intro _; rfl
    | succ k ih =>
      intro hk
      show upS _ k + _ = upS _ k + _
      rw [ih (by omega)]
      congr 1
      simp only
      rw [reb_at _ _ _ (by omega)]
  unfold mdSize
  rw [key bn (Nat.le_refl _)]

end Go.Proofs.YtngdgogjlpjjpaeGreat

namespace Go.Proofs.YtngdgogjlpjjpaeGreat
open Go.RowKit
set_option linter.unusedVariables false
set_option linter.unusedSimpArgs false
set_option maxRecDepth 100000

/-- a module as it was read -/
structure PMod where
  nm : ByteArray
  tz : List Int
  bl : List (List Int)
  dz : List Int
  bss : Int
  rz : List Int
  ss : List ByteArray
  es : List Ex
/-- WHAT ModuleOk SAYS OF WHAT WAS READ -/
def bkOf (bl : List (List Int)) : List Bk := bl.map fun l => (none, l.length, l.length, l)
def mdoP (P : PMod) : Int := mdo P.nm P.tz.length P.tz P.bl.length (bkOf P.bl) P.dz.length P.bss P.rz.length P.rz P.ss.length P.ss P.es.length P.es
theorem mdo_bks {nm : ByteArray} {tn : Nat} {tz : List Int} {bl bl' : List Bk} {dn : Nat} {bss : Int} {rn : Nat} {rz : List Int} {im : Nat} {ss : List ByteArray} {en : Nat} {es : List Ex} (hl : bl.length = bl'.length) (h : ∀ i, i < bl.length → (bl.getD i zB).2.1 = (bl'.getD i zB).2.1 ∧ (bl.getD i zB).2.2.2 = (bl'.getD i zB).2.2.2) :
    mdo nm tn tz bl.length bl dn bss rn rz im ss en es = mdo nm tn tz bl.length bl' dn bss rn rz im ss en es := by
  have e : reb [] bl = reb [] bl' := by
    unfold reb
    rw [← hl]
    apply List.map_congr_left
    intro i hi
    have := h i (by simpa using hi)
    rw [this.1, this.2]
  rw [← reb_mdo [] nm tn tz bl.length bl dn bss rn rz im ss en es rfl, e, reb_mdo [] nm tn tz bl.length bl' dn bss rn rz im ss en es hl.symm]
end Go.Proofs.YtngdgogjlpjjpaeGreat

namespace Go.Proofs.YtngdgogjlpjjpaeGreat
open Go.RowKit
set_option linter.unusedVariables false
set_option linter.unusedSimpArgs false
set_option maxRecDepth 100000

/-- A module's parts. -/
structure Md where
  nm : ByteArray
  ta : Option Addr
  tn : Nat
  tc : Nat
  tz : List Int
  ba : Option Addr
  bn : Nat
  bc : Nat
  bl : List Bk
  da : Option Addr
  dn : Nat
  dc : Nat
  dz : List Int
  bss : Int
  ra : Option Addr
  rn : Nat
  rc : Nat
  rz : List Int
  ia : Option Addr
  im : Nat
  ic : Nat
  ss : List ByteArray
  ea : Option Addr
  en : Nat
  ec : Nat
  es : List Ex
def zMd : Md := ⟨⟨#[]⟩, none, 0, 0, [], none, 0, 0, [], none, 0, 0, [], 0, none, 0, 0, [], none, 0, 0, [], none, 0, 0, []⟩
def Md.mt (m : Md) (w : World) : Prop := MT w m.nm m.ta m.tn m.tc m.tz m.ba m.bn m.bc m.bl m.da m.dn m.dc m.dz m.bss m.ra m.rn m.rc m.rz m.ia m.im m.ic m.ss m.ea m.en m.ec m.es
def Md.size (m : Md) : Nat := mdSize m.nm m.tn m.bn m.bl m.dn m.rn m.im m.ss m.en m.es
def Md.cells (m : Md) : Array Value := #[.string m.nm, .slice m.ta m.tn m.tc, .slice m.ba m.bn m.bc, .slice m.da m.dn m.dc, .int .i64 m.bss, .slice m.ra m.rn m.rc, .slice m.ia m.im m.ic, .slice m.ea m.en m.ec]
def At8 (w : World) (b o : Nat) (m : Md) : Prop :=
  w.cell? ⟨b, o, none⟩ = some (.string m.nm) ∧ w.cell? ⟨b, o + 1, none⟩ = some (.slice m.ta m.tn m.tc) ∧ w.cell? ⟨b, o + 2, none⟩ = some (.slice m.ba m.bn m.bc) ∧ w.cell? ⟨b, o + 3, none⟩ = some (.slice m.da m.dn m.dc) ∧ w.cell? ⟨b, o + 4, none⟩ = some (.int .i64 m.bss) ∧ w.cell? ⟨b, o + 5, none⟩ = some (.slice m.ra m.rn m.rc) ∧ w.cell? ⟨b, o + 6, none⟩ = some (.slice m.ia m.im m.ic) ∧ w.cell? ⟨b, o + 7, none⟩ = some (.slice m.ea m.en m.ec)
theorem At8.below {w w' : World} {b o : Nat} {m : Md} (h : At8 w b o m) (hb : Below w.heap.size w w') : At8 w' b o m := by
  have key : ∀ o v, w.cell? ⟨b, o, none⟩ = some v → w'.cell? ⟨b, o, none⟩ = some v := fun o v hv => (hb.cell (World.block_lt_of_cell? w _ hv)).trans hv
  obtain ⟨h0, h1, h2, h3, h4, h5, h6, h7⟩ := h
  exact ⟨key _ _ h0, key _ _ h1, key _ _ h2, key _ _ h3, key _ _ h4, key _ _ h5, key _ _ h6, key _ _ h7⟩
theorem Md.below {m : Md} {w w' : World} (h : m.mt w) (hb : Below w.heap.size w w') : m.mt w' := MT.below h hb
/-- A SLICE OF MODULES. -/
def MS (w : World) (a : Option Addr) (n cap : Nat) (ms : List Md) : Prop :=
  ms.length = n ∧ n ≤ maxLen ∧ (n ≠ 0 → ∃ b off, a = some ⟨b, off, none⟩ ∧ ∀ i, i < n → At8 w b (off + i * 8) (ms.getD i zMd)) ∧ (∀ i, i < n → (ms.getD i zMd).mt w) ∧ n ≤ cap
theorem MS.below {w w' : World} {a : Option Addr} {n cap : Nat} {ms : List Md} (h : MS w a n cap ms) (hb : Below w.heap.size w w') : MS w' a n cap ms := by
  obtain ⟨h1, h2, h3, h4, h5⟩ := h
  refine ⟨h1, h2, fun hn => ?_, fun i hi => Md.below (h4 i hi) hb, h5⟩
  obtain ⟨b, off, e, hc⟩ := h3 hn
  exact ⟨b, off, e, fun i hi => (hc i hi).below hb⟩
theorem MS.at {w : World} {a : Option Addr} {n cap : Nat} {ms : List Md} (h : MS w a n cap ms) (i : Nat) (hi : i < n) : ∃ b off, a = some ⟨b, off, none⟩ ∧ At8 w b (off + i * 8) (ms.getD i zMd) := by
  obtain ⟨b, off, e, hc⟩ := h.2.2.1 (by omega)
  exact ⟨b, off, e, hc i hi⟩

set_option maxHeartbeats 1000000 in
theorem szModuleS_any (a : Option Addr) (n cap : Nat) (ms : List Md) (l : Int) (w : World) (h : MS w a n cap ms) (l0 : 0 ≤ l) (l1 : l ≤ 1048576) :
    Calls Tryz.prog 9 #[.slice a n cap, .int .i64 l] w fun e w' => e = .returned (.int .i64 (szR l (n + upS (fun j => (ms.getD j zMd).size) n))) ∧ Below w.heap.size w w' := by
  have hm := h.2.1
  unfold maxLen at hm
  obtain ⟨r, hr⟩ : ∃ r, r = szR l (n + upS (fun j => (ms.getD j zMd).size) n) := ⟨_, rfl⟩
  rw [← hr]
  unfold szR at hr
  have HR := hide hr
  clear hr
  by_cases c1 : l < (n : Int)
  · have e := hide (show r = -1 from by rw [HR.out, if_pos (by omega)])
    go_enter Tryz.func9, Tryz.ntmps9
    go_wp2
    go_ret
    exact ⟨ret_int e.out.symm, Below.refl _ _⟩
  · go_enter Tryz.func9, Tryz.ntmps9
    go_wp2_with fail
    go_loopw [1, 5] (fun v i wr => ∃ (k : Nat) (z : Int), k ≤ n ∧ i = .int .i64 k ∧ v = .int .i64 z ∧ 0 ≤ z ∧ z ≤ 1048576 ∧ Hid (z = l - n - (upS (fun j => (ms.getD j zMd).size) k : Nat)) ∧ Below w.heap.size w wr) (fun _ i _ => n - (intOf i).toNat)
    case atStart => exact ⟨0, l - n, Nat.zero_le _, rfl, rfl, by omega, by omega, hide (by simp [upS]), Below.refl _ _⟩
    case round =>
      obtain ⟨k, z, hk, rfl, rfl, z0, z1, HZ, hB⟩ := hrel
      by_cases hlt : k < n
      · have hlt' : (k : Int) < (n : Int) := by omega
        obtain ⟨b, off, rfl, y0, y1, y2, y3, y4, y5, y6, y7⟩ := (h.below hB).at k hlt
        have HT := hide ((h.below hB).2.2.2.1 k hlt)
        have HU := hide (show upS (fun j => (ms.getD j zMd).size) (k + 1) = upS (fun j => (ms.getD j zMd).size) k + (ms.getD k zMd).size from rfl)
        have HM := hide (upS_mono (fun j => (ms.getD j zMd).size) (k + 1) n (by omega))
        generalize ms.getD k zMd = m at *
        obtain ⟨nm, ta, tn, tc, tz, ba, bn, bc, bl, da, dn, dc, dz, bss, ra, rn, rc, rz, ia, im, ic, ss, ea, en, ec, es⟩ := m
        dsimp only at y0 y1 y2 y3 y4 y5 y6 y7
        have HS := hide (szModule_any nm ta tn tc tz ba bn bc bl da dn dc dz bss ra rn rc rz ia im ic ss ea en ec es z wr HT.out z0 z1)
        have HE := hide (show Md.size ⟨nm, ta, tn, tc, tz, ba, bn, bc, bl, da, dn, dc, dz, bss, ra, rn, rc, rz, ia, im, ic, ss, ea, en, ec, es⟩ = mdSize nm tn bn bl dn rn im ss en es from rfl)
        rw [HE.out] at HU
        generalize mdSize nm tn bn bl dn rn im ss en es = q at *
        unfold szR at HS
        by_cases c2 : z < (q : Int)
        · rw [if_pos c2] at HS
          have e := hide (show r = -1 from by
            have h1 := HZ.out; have h2 := HU.out; have h3 := HM.out
            rw [HR.out, if_pos (by omega)])
          go_wp2_with fail
          refine HS.out.mono ?_
          rintro e w1 ⟨rfl, hb1⟩
          go_wp2
          go_ret
          exact ⟨ret_int e.out.symm, hB.trans (hb1.mono hB.size)⟩
        · rw [if_neg c2] at HS
          have hz2 : ¬ z - (q : Int) < 0 := by omega
          go_wp2_with fail
          refine HS.out.mono ?_
          rintro e w1 ⟨rfl, hb1⟩
          clear y0 y1 y2 y3 y4 y5 y6 y7
          go_wp2
          go_roundw
          case rel => exact ⟨k + 1, z - q, by omega, by go_num, rfl, by omega, by omega, hide (by have h1 := HZ.out; have h2 := HU.out; omega), hB.trans (hb1.mono hB.size)⟩
          case measure => simp [intOf]; omega
      · have e := hide (show r = z from by
          have h1 := HZ.out
          have hkn : k = n := by omega
          rw [hkn] at h1
          rw [HR.out, if_neg (by omega)]
          omega)
        go_wp2
        go_ret
        exact ⟨ret_int e.out.symm, hB⟩
end Go.Proofs.YtngdgogjlpjjpaeGreat

namespace Go.Proofs.YtngdgogjlpjjpaeGreat
open Go.RowKit
set_option linter.unusedVariables false
set_option linter.unusedSimpArgs false
set_option maxRecDepth 100000

def set8 (w : World) (g o : Nat) (m : Md) : World := ((((((((w.setCell ⟨g, o, none⟩ (.string m.nm)).setCell ⟨g, o + 1, none⟩ (.slice m.ta m.tn m.tc)).setCell ⟨g, o + 2, none⟩ (.slice m.ba m.bn m.bc)).setCell ⟨g, o + 3, none⟩ (.slice m.da m.dn m.dc)).setCell ⟨g, o + 4, none⟩ (.int .i64 m.bss)).setCell ⟨g, o + 5, none⟩ (.slice m.ra m.rn m.rc)).setCell ⟨g, o + 6, none⟩ (.slice m.ia m.im m.ic)).setCell ⟨g, o + 7, none⟩ (.slice m.ea m.en m.ec))
theorem set8_other (w : World) (g o b o' : Nat) (m : Md) (h : b ≠ g ∨ o' < o ∨ o + 8 ≤ o') : (set8 w g o m).cell? ⟨b, o', none⟩ = w.cell? ⟨b, o', none⟩ := by
  unfold set8
  rw [cellO (by omega), cellO (by omega), cellO (by omega), cellO (by omega), cellO (by omega), cellO (by omega), cellO (by omega), cellO (by omega)]
theorem set8_at {w : World} {g o : Nat} {q : Md} (h : At8 w g o q) (m : Md) : At8 (set8 w g o m) g o m := by
  obtain ⟨h0, h1, h2, h3, h4, h5, h6, h7⟩ := h
  unfold set8
  refine ⟨?_, ?_, ?_, ?_, ?_, ?_, ?_, ?_⟩
  · rw [cellO (by omega), cellO (by omega), cellO (by omega), cellO (by omega), cellO (by omega), cellO (by omega), cellO (by omega)]; exact cellS (u := _) (by exact h0)
  · rw [cellO (by omega), cellO (by omega), cellO (by omega), cellO (by omega), cellO (by omega), cellO (by omega)]; exact cellS (u := _) (by rw [cellO (by omega)]; exact h1)
  · rw [cellO (by omega), cellO (by omega), cellO (by omega), cellO (by omega), cellO (by omega)]; exact cellS (u := _) (by rw [cellO (by omega), cellO (by omega)]; exact h2)
  · rw [cellO (by omega), cellO (by omega), cellO (by omega), cellO (by omega)]; exact cellS (u := _) (by rw [cellO (by omega), cellO (by omega), cellO (by omega)]; exact h3)
  · rw [cellO (by omega), cellO (by omega), cellO (by omega)]; exact cellS (u := _) (by rw [cellO (by omega), cellO (by omega), cellO (by omega), cellO (by omega)]; exact h4)
  · rw [cellO (by omega), cellO (by omega)]; exact cellS (u := _) (by rw [cellO (by omega), cellO (by omega), cellO (by omega), cellO (by omega), cellO (by omega)]; exact h5)
  · rw [cellO (by omega)]; exact cellS (u := _) (by rw [cellO (by omega), cellO (by omega), cellO (by omega), cellO (by omega), cellO (by omega), cellO (by omega)]; exact h6)
  · exact cellS (u := _) (by rw [cellO (by omega), cellO (by omega), cellO (by omega), cellO (by omega), cellO (by omega), cellO (by omega), cellO (by omega)]; exact h7)
theorem set8_far {w : World} {g o b o' : Nat} {q : Md} (h : At8 w b o' q) (m : Md) (hf : b ≠ g ∨ o' + 8 ≤ o ∨ o + 8 ≤ o') : At8 (set8 w g o m) b o' q := by
  unfold At8
  rw [set8_other _ _ _ _ _ _ (by omega), set8_other _ _ _ _ _ _ (by omega), set8_other _ _ _ _ _ _ (by omega), set8_other _ _ _ _ _ _ (by omega), set8_other _ _ _ _ _ _ (by omega), set8_other _ _ _ _ _ _ (by omega), set8_other _ _ _ _ _ _ (by omega), set8_other _ _ _ _ _ _ (by omega)]
  exact h
theorem set8_blk {w : World} {g : Nat} {cur : Array Value} {t : TypeId} (h : Blk w g cur t) (o : Nat) (m : Md) : ∃ cur', Blk (set8 w g o m) g cur' t ∧ cur'.size = cur.size :=
  ⟨_, ((((((((h.set (o) _).set (o + 1) _).set (o + 2) _).set (o + 3) _).set (o + 4) _).set (o + 5) _).set (o + 6) _).set (o + 7) _), by simp⟩
theorem set8_below {B : Nat} {a w : World} (h : Below B a w) {g : Nat} (hg : B ≤ g) (o : Nat) (m : Md) : Below B a (set8 w g o m) :=
  ((((((((h.setCell (p := ⟨g, o, none⟩) hg _).setCell (p := ⟨g, o + 1, none⟩) hg _).setCell (p := ⟨g, o + 2, none⟩) hg _).setCell (p := ⟨g, o + 3, none⟩) hg _).setCell (p := ⟨g, o + 4, none⟩) hg _).setCell (p := ⟨g, o + 5, none⟩) hg _).setCell (p := ⟨g, o + 6, none⟩) hg _).setCell (p := ⟨g, o + 7, none⟩) hg _)
theorem set8_turn (c : Nat) (w : World) (g o : Nat) (m : Md) (h : g ≤ c) : Turn (fun j => j ≤ c) w (set8 w g o m) :=
  ((((((((turn_at c w g o _ h).trans (turn_at c _ g (o + 1) _ h)).trans (turn_at c _ g (o + 2) _ h)).trans (turn_at c _ g (o + 3) _ h)).trans (turn_at c _ g (o + 4) _ h)).trans (turn_at c _ g (o + 5) _ h)).trans (turn_at c _ g (o + 6) _ h)).trans (turn_at c _ g (o + 7) _ h))
/-- m' is a copy of m in rows of its own behind block c. -/
def CopyOf (c : Nat) (m m' : Md) (W : World) : Prop := ∃ g1 g2 g3 g5 g6 g7 gs, m' = ⟨m.nm, some ⟨g1, 0, none⟩, m.tn, m.tn, m.tz, some ⟨g2, 0, none⟩, m.bn, m.bn, reb gs m.bl, some ⟨g3, 0, none⟩, m.dn, m.dn, m.dz, m.bss, some ⟨g5, 0, none⟩, m.rn, m.rn, m.rz, some ⟨g6, 0, none⟩, m.im, m.im, m.ss, some ⟨g7, 0, none⟩, m.en, m.en, m.es⟩ ∧ c < g1 ∧ g1 < g2 ∧ g2 < g3 ∧ g3 < g5 ∧ g5 < g6 ∧ g6 < g7 ∧ gs.length = m.bn ∧ RowI W g1 m.tz ∧ RowB W g2 m.bn gs m.bl ∧ Row8 W g3 m.dz ∧ RowI W g5 m.rz ∧ RowT W g6 m.ss ∧ RowX W g7 m.es
theorem copy_stab (c : Nat) (m m' : Md) : Stab c (CopyOf c m m') := fun W W' t h => by
  obtain ⟨g1, g2, g3, g5, g6, g7, gs, e, l1, l2, l3, l4, l5, l6, hg, r1, r2, r3, r5, r6, r7⟩ := h
  have key : RowB W' g2 m.bn gs m.bl := by
    obtain ⟨⟨cur, h2, h3⟩, h4, h5⟩ := r2
    exact ⟨⟨cur, turn_blk t h2 (by show ¬ g2 ≤ c; omega), h3⟩, fun i hi => ⟨turn_blk t (h4 i hi).1 (by show ¬ gs.getD i 0 ≤ c; have := (h4 i hi).2; omega), (h4 i hi).2⟩, h5⟩
  exact ⟨g1, g2, g3, g5, g6, g7, gs, e, l1, l2, l3, l4, l5, l6, hg, stab_i (by omega) W W' t r1, key, stab_8 (by omega) W W' t r3, stab_i (by omega) W W' t r5, stab_t (by omega) W W' t r6, stab_x (by omega) W W' t r7⟩
theorem copy_below {c : Nat} {m m' : Md} {W W' : World} (h : CopyOf c m m' W) (hb : Below W.heap.size W W') : CopyOf c m m' W' := copy_stab c m m' W W' (turn_below hb) h
theorem copy_mt {c : Nat} {m m' : Md} {w W : World} (hm : m.mt w) (h : CopyOf c m m' W) : m'.mt W := by
  obtain ⟨g1, g2, g3, g5, g6, g7, gs, rfl, _, _, _, _, _, _, hg, r1, r2, r3, r5, r6, r7⟩ := h
  exact mt_of_rows hm hg r1 r2 r3 r5 r6 r7
/-- A ROW OF COPIES: the first ms'.length of n. -/
def RowM (W : World) (c n : Nat) (ms ms' : List Md) : Prop :=
  (∃ cur, Blk W c cur 104 ∧ cur.size = n * 8) ∧ (∀ i, i < n → ∃ q, At8 W c (i * 8) q) ∧ ∀ i, i < ms'.length → At8 W c (i * 8) (ms'.getD i zMd) ∧ CopyOf c (ms.getD i zMd) (ms'.getD i zMd) W
theorem RowM.below {W W' : World} {c n : Nat} {ms ms' : List Md} (h : RowM W c n ms ms') (hb : Below W.heap.size W W') : RowM W' c n ms ms' := by
  obtain ⟨⟨cur, hc, hs⟩, hq, hr⟩ := h
  exact ⟨⟨cur, hc.below hb, hs⟩, fun i hi => by obtain ⟨q, h⟩ := hq i hi; exact ⟨q, h.below hb⟩, fun i hi => ⟨(hr i hi).1.below hb, copy_below (hr i hi).2 hb⟩⟩
theorem getM_lt (ms : List Md) (x : Md) (i : Nat) (h : i < ms.length) : (ms ++ [x]).getD i zMd = ms.getD i zMd := by
  simp [List.getD_eq_getElem?_getD, List.getElem?_append_left h]
theorem getM_last (ms : List Md) (x : Md) : (ms ++ [x]).getD ms.length zMd = x := by
  simp [List.getD_eq_getElem?_getD]
theorem RowM.push {W : World} {c n : Nat} {ms ms' : List Md} (h : RowM W c n ms ms') (hk : ms'.length < n) (x : Md) (hx : CopyOf c (ms.getD ms'.length zMd) x W) : RowM (set8 W c (ms'.length * 8) x) c n ms (ms' ++ [x]) := by
  obtain ⟨⟨cur, hc, hs⟩, hq, hr⟩ := h
  obtain ⟨cur', hc', hs'⟩ := set8_blk hc (ms'.length * 8) x
  have T := set8_turn c W c (ms'.length * 8) x (Nat.le_refl _)
  refine ⟨⟨cur', hc', by rw [hs', hs]⟩, fun i hi => ?_, fun i hi => ?_⟩
  · obtain ⟨q, h⟩ := hq i hi
    by_cases e : i = ms'.length
    · subst e; exact ⟨x, set8_at h x⟩
    · exact ⟨q, set8_far h x (by omega)⟩
  · simp only [List.length_append, List.length_cons, List.length_nil] at hi
    by_cases e : i = ms'.length
    · subst e
      rw [getM_last]
      obtain ⟨q, h⟩ := hq _ hk
      exact ⟨set8_at h x, copy_stab _ _ _ _ _ T hx⟩
    · rw [getM_lt _ _ _ (by omega)]
      exact ⟨set8_far (hr i (by omega)).1 x (by omega), copy_stab _ _ _ _ _ T (hr i (by omega)).2⟩
theorem infoM : (Tryz.prog.info? 104).map (fun i => (i.zero, i.size, i.bytes)) = some (some (.agg #[.string ⟨#[]⟩, .slice none 0 0, .slice none 0 0, .slice none 0 0, .int .i64 0, .slice none 0 0, .slice none 0 0, .slice none 0 0]), 8, 168) := by kernel_rfl
theorem rowM_of_made {w : World} {base g n : Nat} {ms : List Md} (h : w.ownsRow base 104 8 (.slice (some ⟨g, 0, none⟩) n n) n (madeCells (Value.cells (.agg #[.string ⟨#[]⟩, .slice none 0 0, .slice none 0 0, .slice none 0 0, .int .i64 0, .slice none 0 0, .slice none 0 0, .slice none 0 0])) (n * 8)).toList) : RowM w g n ms [] := by
  obtain ⟨hl, h | ⟨g', cap, cur, hv, hb, hh, h1, h2, h3, h4⟩⟩ := h
  · simp at h
  · simp at hv
    obtain ⟨rfl, rfl⟩ := hv
    have e : cur.toList = (madeCells (Value.cells (.agg #[.string ⟨#[]⟩, .slice none 0 0, .slice none 0 0, .slice none 0 0, .int .i64 0, .slice none 0 0, .slice none 0 0, .slice none 0 0])) (n * 8)).toList := by
      rw [← h4, List.take_of_length_le (by simp [h3])]
    have e2 : cur = madeCells (Value.cells (.agg #[.string ⟨#[]⟩, .slice none 0 0, .slice none 0 0, .slice none 0 0, .int .i64 0, .slice none 0 0, .slice none 0 0, .slice none 0 0])) (n * 8) := Array.toList_inj.1 e
    have hB : Blk w g cur 104 := hh
    refine ⟨⟨cur, hB, by simp [h3]⟩, fun i hi => ⟨zMd, ?_⟩, fun i hi => by simp at hi⟩
    have hcell : ∀ j, j < 8 → w.cell? ⟨g, i * 8 + j, none⟩ = #[Value.string ⟨#[]⟩, .slice none 0 0, .slice none 0 0, .slice none 0 0, .int .i64 0, .slice none 0 0, .slice none 0 0, .slice none 0 0][j]? := by
      intro j hj
      rw [hB.cell, e2]
      have hm : (i * 8 + j) % 8 = j := by omega
      simp [madeCells, Value.cells, show i * 8 + j < n * 8 by omega, hm]
      match j, hj with
      | 0, _ => rfl
      | 1, _ => rfl
      | 2, _ => rfl
      | 3, _ => rfl
      | 4, _ => rfl
      | 5, _ => rfl
      | 6, _ => rfl
      | 7, _ => rfl
    exact ⟨hcell 0 (by omega), hcell 1 (by omega), hcell 2 (by omega), hcell 3 (by omega), hcell 4 (by omega), hcell 5 (by omega), hcell 6 (by omega), hcell 7 (by omega)⟩

set_option maxHeartbeats 2000000 in
theorem toModuleS_any (a : Option Addr) (n cap : Nat) (ms : List Md) (w : World) (h : MS w a n cap ms) (hn : n ≤ 1048576) (hs : ∀ i, i < n → (ms.getD i zMd).size ≤ 1048576) :
    Calls Tryz.prog 12 #[.slice a n cap] w fun e w' => e = .returned (.slice (some ⟨w.heap.size, 0, none⟩) n n) ∧ (∃ ms', ms'.length = n ∧ RowM w' w.heap.size n ms ms') ∧ Below w.heap.size w w' := by
  obtain ⟨i0, hi, hz0, hz1, hz2⟩ := info_parts infoM
  go_enter Tryz.func12, Tryz.ntmps12
  go_wp2_with (at_make; refine wpList_make_full _ rfl _ _ 31 rfl w.heap.size 104 i0 (.agg #[.string ⟨#[]⟩, .slice none 0 0, .slice none 0 0, .slice none 0 0, .int .i64 0, .slice none 0 0, .slice none 0 0, .slice none 0 0]) 8 Tryz.underlying31 hi hz0 hz1 .i64 .i64 _ _ n rfl rfl rfl rfl (by rw [hz2]; omega) (by unfold maxLen; omega) (Nat.le_refl _) ?_; intro w1 hown hgr)
  have hrow : RowM w1 w.heap.size n ms [] := rowM_of_made hown
  have hbel := below_grown hgr
  clear hown hgr hi hz0 hz1 hz2
  go_loopw [4] (fun i wr => ∃ k : Nat, k ≤ n ∧ i = .int .i64 k ∧ (∃ ms', ms'.length = k ∧ RowM wr w.heap.size n ms ms') ∧ Below w.heap.size w wr) (fun i _ => n - (intOf i).toNat)
  case atStart => exact ⟨0, Nat.zero_le _, rfl, ⟨[], rfl, hrow⟩, hbel⟩
  case round =>
    obtain ⟨k, hk, rfl, ⟨ms', hl, hR⟩, hB⟩ := hrel
    clear hrow hbel
    by_cases hlt : k < n
    · have hlt' : (k : Int) < (n : Int) := by omega
      obtain ⟨b, off, rfl, y0, y1, y2, y3, y4, y5, y6, y7⟩ := (h.below hB).at k hlt
      have HT := hide ((h.below hB).2.2.2.1 k hlt)
      have hsk := hs k hlt
      have HP := hide (fun (W : World) (x : Md) (hW : Below wr.heap.size wr W) (hx : CopyOf w.heap.size (ms.getD k zMd) x W) => by
        have hp := (hR.below hW).push (by omega) x (by rw [hl]; exact hx)
        rw [hl] at hp
        exact hp)
      have HF := hide (fun (W : World) (hW : Below wr.heap.size wr W) => show (∃ q, At8 W w.heap.size (k * 8) q) ∧ ∀ i, W.frozen? ⟨w.heap.size, i, none⟩ = false from ⟨(hR.below hW).2.1 k hlt, by obtain ⟨⟨cur, hc, _⟩, _⟩ := hR.below hW; exact hc.frozen⟩)
      have hcl : w.heap.size < wr.heap.size := by obtain ⟨⟨cur, hc, _⟩, _⟩ := hR; exact hc.lt
      clear hR
      generalize ms.getD k zMd = m at *
      obtain ⟨nm, ta, tn, tc, tz, ba, bn, bc, bl, da, dn, dc, dz, bss, ra, rn, rc, rz, ia, im, ic, ss, ea, en, ec, es⟩ := m
      dsimp only at y0 y1 y2 y3 y4 y5 y6 y7
      have HS := hide (toModule_any nm ta tn tc tz ba bn bc bl da dn dc dz bss ra rn rc rz ia im ic ss ea en ec es wr HT.out hsk)
      clear hsk
      go_wp2_with fail
      refine HS.out.mono ?_
      rintro e w2 ⟨g1, g2, g3, g5, g6, g7, rfl, l1, l2, l3, l4, l5, l6, r1, ⟨gs, hg, r2⟩, r3, r5, r6, r7, hb2⟩
      have HX := hide (HP.out w2 ⟨nm, some ⟨g1, 0, none⟩, tn, tn, tz, some ⟨g2, 0, none⟩, bn, bn, reb gs bl, some ⟨g3, 0, none⟩, dn, dn, dz, bss, some ⟨g5, 0, none⟩, rn, rn, rz, some ⟨g6, 0, none⟩, im, im, ss, some ⟨g7, 0, none⟩, en, en, es⟩ hb2 ⟨g1, g2, g3, g5, g6, g7, gs, rfl, by omega, l2, l3, l4, l5, l6, hg, r1, r2, r3, r5, r6, r7⟩)
      obtain ⟨⟨q, p0, p1, p2, p3, p4, p5, p6, p7⟩, hfz⟩ := HF.out w2 hb2
      have HB2 := hide (set8_below (hB.trans (hb2.mono hB.size)) (Nat.le_refl w.heap.size) (k * 8) ⟨nm, some ⟨g1, 0, none⟩, tn, tn, tz, some ⟨g2, 0, none⟩, bn, bn, reb gs bl, some ⟨g3, 0, none⟩, dn, dn, dz, bss, some ⟨g5, 0, none⟩, rn, rn, rz, some ⟨g6, 0, none⟩, im, im, ss, some ⟨g7, 0, none⟩, en, en, es⟩)
      clear HP HF HS HT y0 y1 y2 y3 y4 y5 y6 y7 r1 r2 r3 r5 r6 r7 hb2 hB
      go_wp2
      go_roundw
      case rel => exact ⟨k + 1, by omega, by go_num, ⟨_, by rw [List.length_append, hl]; rfl, HX.out⟩, HB2.out⟩
      case measure => simp [intOf]; omega
    · have e : Hid (k = n) := by show k = n; omega
      go_wp2
      go_ret
      exact ⟨rfl, ⟨ms', by rw [hl, e.out], hR⟩, hB⟩
end Go.Proofs.YtngdgogjlpjjpaeGreat
