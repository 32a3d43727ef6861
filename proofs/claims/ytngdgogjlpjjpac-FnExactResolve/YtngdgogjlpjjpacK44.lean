import Derived.Test.YtngdgogjlpjjpacK43
namespace Go.Proofs.Ytngdgogjlpjjpac
open Go.RowKit
set_option linter.unusedVariables false
set_option linter.unusedSimpArgs false
set_option maxRecDepth 100000

/-- A module's parts. -/
structure Md where
  nm : ByteArray
  ta : Option Addr
  tn : Nat
  tc : Nat
  tz : List Int
  ba : Option Addr
  bn : Nat
  bc : Nat
  bl : List Bk
  da : Option Addr
  dn : Nat
  dc : Nat
  dz : List Int
  bss : Int
  ra : Option Addr
  rn : Nat
  rc : Nat
  rz : List Int
  ia : Option Addr
  im : Nat
  ic : Nat
  ss : List ByteArray
  ea : Option Addr
  en : Nat
  ec : Nat
  es : List Ex
def zMd : Md := ⟨⟨#[]⟩, none, 0, 0, [], none, 0, 0, [], none, 0, 0, [], 0, none, 0, 0, [], none, 0, 0, [], none, 0, 0, []⟩
def Md.mt (m : Md) (w : World) : Prop := MT w m.nm m.ta m.tn m.tc m.tz m.ba m.bn m.bc m.bl m.da m.dn m.dc m.dz m.bss m.ra m.rn m.rc m.rz m.ia m.im m.ic m.ss m.ea m.en m.ec m.es
def Md.size (m : Md) : Nat := mdSize m.nm m.tn m.bn m.bl m.dn m.rn m.im m.ss m.en m.es
def Md.cells (m : Md) : Array Value := #[.string m.nm, .slice m.ta m.tn m.tc, .slice m.ba m.bn m.bc, .slice m.da m.dn m.dc, .int .i64 m.bss, .slice m.ra m.rn m.rc, .slice m.ia m.im m.ic, .slice m.ea m.en m.ec]
def At8 (w : World) (b o : Nat) (m : Md) : Prop :=
  w.cell? ⟨b, o, none⟩ = some (.string m.nm) ∧ w.cell? ⟨b, o + 1, none⟩ = some (.slice m.ta m.tn m.tc) ∧ w.cell? ⟨b, o + 2, none⟩ = some (.slice m.ba m.bn m.bc) ∧ w.cell? ⟨b, o + 3, none⟩ = some (.slice m.da m.dn m.dc) ∧ w.cell? ⟨b, o + 4, none⟩ = some (.int .i64 m.bss) ∧ w.cell? ⟨b, o + 5, none⟩ = some (.slice m.ra m.rn m.rc) ∧ w.cell? ⟨b, o + 6, none⟩ = some (.slice m.ia m.im m.ic) ∧ w.cell? ⟨b, o + 7, none⟩ = some (.slice m.ea m.en m.ec)
theorem At8.below {w w' : World} {b o : Nat} {m : Md} (h : At8 w b o m) (hb : Below w.heap.size w w') : At8 w' b o m := by
  have key : ∀ o v, w.cell? ⟨b, o, none⟩ = some v → w'.cell? ⟨b, o, none⟩ = some v := fun o v hv => (hb.cell (World.block_lt_of_cell? w _ hv)).trans hv
  obtain ⟨h0, h1, h2, h3, h4, h5, h6, h7⟩ := h
  exact ⟨key _ _ h0, key _ _ h1, key _ _ h2, key _ _ h3, key _ _ h4, key _ _ h5, key _ _ h6, key _ _ h7⟩
theorem Md.below {m : Md} {w w' : World} (h : m.mt w) (hb : Below w.heap.size w w') : m.mt w' := MT.below h hb
/-- A SLICE OF MODULES. -/
def MS (w : World) (a : Option Addr) (n cap : Nat) (ms : List Md) : Prop :=
  ms.length = n ∧ n ≤ maxLen ∧ (n ≠ 0 → ∃ b off, a = some ⟨b, off, none⟩ ∧ ∀ i, i < n → At8 w b (off + i * 8) (ms.getD i zMd)) ∧ (∀ i, i < n → (ms.getD i zMd).mt w) ∧ n ≤ cap
theorem MS.below {w w' : World} {a : Option Addr} {n cap : Nat} {ms : List Md} (h : MS w a n cap ms) (hb : Below w.heap.size w w') : MS w' a n cap ms := by
  obtain ⟨h1, h2, h3, h4, h5⟩ := h
  refine ⟨h1, h2, fun hn => ?_, fun i hi => Md.below (h4 i hi) hb, h5⟩
  obtain ⟨b, off, e, hc⟩ := h3 hn
  exact ⟨b, off, e, fun i hi => (hc i hi).below hb⟩
theorem MS.at {w : World} {a : Option Addr} {n cap : Nat} {ms : List Md} (h : MS w a n cap ms) (i : Nat) (hi : i < n) : ∃ b off, a = some ⟨b, off, none⟩ ∧ At8 w b (off + i * 8) (ms.getD i zMd) := by
  obtain ⟨b, off, e, hc⟩ := h.2.2.1 (by omega)
  exact ⟨b, off, e, hc i hi⟩

set_option maxHeartbeats 1000000 in
theorem szModuleS_any (a : Option Addr) (n cap : Nat) (ms : List Md) (l : Int) (w : World) (h : MS w a n cap ms) (l0 : 0 ≤ l) (l1 : l ≤ 1048576) :
    Calls Try.prog 17 #[.slice a n cap, .int .i64 l] w fun e w' => e = .returned (.int .i64 (szR l (n + upS (fun j => (ms.getD j zMd).size) n))) ∧ Below w.heap.size w w' := by
  have hm := h.2.1
  unfold maxLen at hm
  obtain ⟨r, hr⟩ : ∃ r, r = szR l (n + upS (fun j => (ms.getD j zMd).size) n) := ⟨_, rfl⟩
  rw [← hr]
  unfold szR at hr
  have HR := hide hr
  clear hr
  by_cases c1 : l < (n : Int)
  · have e := hide (show r = -1 from by rw [HR.out, if_pos (by omega)])
    go_enter Try.func17, Try.ntmps17
    go_wp2
    go_ret
    exact ⟨ret_int e.out.symm, Below.refl _ _⟩
  · go_enter Try.func17, Try.ntmps17
    go_wp2_with fail
    go_loopw [1, 5] (fun v i wr => ∃ (k : Nat) (z : Int), k ≤ n ∧ i = .int .i64 k ∧ v = .int .i64 z ∧ 0 ≤ z ∧ z ≤ 1048576 ∧ Hid (z = l - n - (upS (fun j => (ms.getD j zMd).size) k : Nat)) ∧ Below w.heap.size w wr) (fun _ i _ => n - (intOf i).toNat)
    case atStart => exact ⟨0, l - n, Nat.zero_le _, rfl, rfl, by omega, by omega, hide (by simp [upS]), Below.refl _ _⟩
    case round =>
      obtain ⟨k, z, hk, rfl, rfl, z0, z1, HZ, hB⟩ := hrel
      by_cases hlt : k < n
      · have hlt' : (k : Int) < (n : Int) := by omega
        obtain ⟨b, off, rfl, y0, y1, y2, y3, y4, y5, y6, y7⟩ := (h.below hB).at k hlt
        have HT := hide ((h.below hB).2.2.2.1 k hlt)
        have HU := hide (show upS (fun j => (ms.getD j zMd).size) (k + 1) = upS (fun j => (ms.getD j zMd).size) k + (ms.getD k zMd).size from rfl)
        have HM := hide (upS_mono (fun j => (ms.getD j zMd).size) (k + 1) n (by omega))
        generalize ms.getD k zMd = m at *
        obtain ⟨nm, ta, tn, tc, tz, ba, bn, bc, bl, da, dn, dc, dz, bss, ra, rn, rc, rz, ia, im, ic, ss, ea, en, ec, es⟩ := m
        dsimp only at y0 y1 y2 y3 y4 y5 y6 y7
        have HS := hide (szModule_any nm ta tn tc tz ba bn bc bl da dn dc dz bss ra rn rc rz ia im ic ss ea en ec es z wr HT.out z0 z1)
        have HE := hide (show Md.size ⟨nm, ta, tn, tc, tz, ba, bn, bc, bl, da, dn, dc, dz, bss, ra, rn, rc, rz, ia, im, ic, ss, ea, en, ec, es⟩ = mdSize nm tn bn bl dn rn im ss en es from rfl)
        rw [HE.out] at HU
        generalize mdSize nm tn bn bl dn rn im ss en es = q at *
        unfold szR at HS
        by_cases c2 : z < (q : Int)
        · rw [if_pos c2] at HS
          have e := hide (show r = -1 from by
            have h1 := HZ.out; have h2 := HU.out; have h3 := HM.out
            rw [HR.out, if_pos (by omega)])
          go_wp2_with fail
          refine HS.out.mono ?_
          rintro e w1 ⟨rfl, hb1⟩
          go_wp2
          go_ret
          exact ⟨ret_int e.out.symm, hB.trans (hb1.mono hB.size)⟩
        · rw [if_neg c2] at HS
          have hz2 : ¬ z - (q : Int) < 0 := by omega
          go_wp2_with fail
          refine HS.out.mono ?_
          rintro e w1 ⟨rfl, hb1⟩
          clear y0 y1 y2 y3 y4 y5 y6 y7
          go_wp2
          go_roundw
          case rel => exact ⟨k + 1, z - q, by omega, by go_num, rfl, by omega, by omega, hide (by have h1 := HZ.out; have h2 := HU.out; omega), hB.trans (hb1.mono hB.size)⟩
          case measure => simp [intOf]; omega
      · have e := hide (show r = z from by
          have h1 := HZ.out
          have hkn : k = n := by omega
          rw [hkn] at h1
          rw [HR.out, if_neg (by omega)]
          omega)
        go_wp2
        go_ret
        exact ⟨ret_int e.out.symm, hB⟩
end Go.Proofs.Ytngdgogjlpjjpac
