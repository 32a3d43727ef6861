import Derived.Test.YtngdgogjlpjjpaeGreatP18
import Derived.Test.YtngdgogjlpjjpaeGreatP26
namespace Go.Proofs.YtngdgogjlpjjpaeGreat
open Go.RowKit Classical
set_option linter.unusedVariables false
set_option linter.unusedSimpArgs false
set_option maxRecDepth 100000
def pcq (ps : List PMod) (m b : Int) : Int :=
  if 0 ≤ m ∧ m < (ps.length : Int) then (if b = -1 then ((ps.getD m.toNat zP).tz.length : Int) else if 0 ≤ b ∧ b < ((ps.getD m.toNat zP).bl.length : Int) then (((ps.getD m.toNat zP).bl.getD b.toNat []).length : Int) else -1) else -1
theorem pcm_pcq {w : World} {a : Option Addr} {n cap : Nat} {ms : List Md} (h : MSD w a n cap ms) (m b : Int) : pcm ms m b = pcq (pmS ms) m b := by
  have hn := h.s.1
  unfold pcm pcq
  rw [pmS_len]
  by_cases c : 0 ≤ m ∧ m < (ms.length : Int)
  · rw [if_pos c, if_pos c, pmS_at (by omega)]
    have hd := h.d m.toNat (by omega)
    generalize ms.getD m.toNat zMd = M at *
    have ht : M.tn = M.pm.tz.length := hd.t.1.symm
    have hb : M.bn = M.pm.bl.length := by simp [Md.pm, hd.b.1]
    unfold pcn
    rw [ht, hb]
    by_cases c1 : b = -1
    · rw [if_pos c1, if_pos c1]
    · rw [if_neg c1, if_neg c1]
      by_cases c2 : 0 ≤ b ∧ b < (M.pm.bl.length : Int)
      · rw [if_pos c2, if_pos c2]
        have hr := (hd.b.2.2.2.1 b.toNat (by omega)).1
        rw [← hr]
        congr 1
        have : b.toNat < M.bl.length := by rw [hd.b.1, hb]; omega
        simp [Md.pm, List.getD_eq_getElem?_getD, this]
      · rw [if_neg c2, if_neg c2]
  · rw [if_neg c, if_neg c]
def orgq (L : Lay) (p : Pl) (b s : Int) : Int := if b = -1 then p.text else if s = -1 then p.banks.getD b.toNat 0 else L.slots.getD s.toNat 0
abbrev sOk (L : Lay) (b s : Int) : Prop := if b = -1 ∨ L.slots = [] then s = -1 else 0 ≤ s ∧ s < (L.slots.length : Int)
theorem sOk.fit {L : Lay} {b s : Int} (h : sOk L b s) : s = -1 ∨ (b ≠ -1 ∧ 0 ≤ s ∧ s < (L.slots.length : Int)) := by
  unfold sOk at h
  split at h
  · exact .inl h
  · rename_i c
    exact .inr ⟨fun e => c (.inl e), h⟩
structure Pkn (ps : List PMod) (L : Lay) (xs : List PB) (m b s : Int) : Prop where
  m0 : 0 ≤ m
  m1 : m < (xs.length : Int)
  m2 : m < (ps.length : Int)
  p : (xs.getD m.toNat zPB).1 = plc ps m.toNat
  bb : b = -1 ∨ (0 ≤ b ∧ b < ((xs.getD m.toNat zPB).1.banks.length : Int))
  w : 0 ≤ pcq ps m b ∧ pcq ps m b ≤ 200
  d : 65536 ≤ (plc ps m.toNat).data ∧ (plc ps m.toNat).data ≤ 100000 ∧ 0 ≤ (plc ps m.toNat).size ∧ (plc ps m.toNat).size ≤ 100000
  t : 65536 ≤ L.stack ∧ L.stack ≤ 100000
  e : 65536 ≤ endOf L ∧ endOf L ≤ 100000
theorem lok_end {ps : List PMod} {L : Lay} (h : Lok ps L) : 65536 ≤ endOf L ∧ endOf L ≤ 100000 := by
  have K := lok_kn h
  obtain ⟨h1, h2⟩ := h
  have e : lay ps (L.slots.length : Int) (cfW L) (cfK L) = L := by unfold lkL at h2; rw [if_pos h1] at h2; exact h2
  obtain ⟨hc, n1, n2, hv, hi⟩ := lkc_facts h1
  unfold cfo at hc
  simp at hc
  have a2 := Ra_range hv ps.length (Nat.le_refl _)
  have a3 : (0 : Int) ≤ ((L.slots.length : Int).toNat : Int) * rnd (4 * cfW L) := Int.mul_nonneg (by omega) (by have := rnd_range (x := 4 * cfW L) (by omega); omega)
  have e2 : L.ram = Ra ps ps.length + cfK L + ((L.slots.length : Int).toNat : Int) * rnd (4 * cfW L) := by
    have := congrArg Lay.ram e
    rw [← this]; rfl
  have rr := K.rr
  unfold endOf
  by_cases c : L.slots = []
  · rw [if_pos c]
    have : wrap64 (65536 + L.ram) = 65536 + L.ram := by unfold wrap64; omega
    rw [this]
    omega
  · rw [if_neg c]
    have hl : 0 < L.slots.length := List.length_pos_iff.2 c
    have e3 : L.slots.getD 0 0 = slt ps (cfW L) (cfK L) 0 := by
      have := congrArg Lay.slots e
      have e4 : L.slots = (List.range (L.slots.length : Int).toNat).map (slt ps (cfW L) (cfK L)) := by
        conv => lhs; rw [← this]
        rfl
      rw [e4]
      simp [List.getD_eq_getElem?_getD, hl]
    rw [e3]
    unfold slt
    simp only [Int.natCast_zero, Int.zero_mul]
    omega
theorem pkn_of {w : World} {L : Lay} {a0 : Option Addr} {c0 : Nat} {xs : List PB} {a2 : Option Addr} {c2 : Nat} {a5 : Option Addr} {c5 : Nat} {ts : List TB} {ps : List PMod} {m b s : Int}
    (hL : LyT w L a0 c0 xs a2 c2 a5 c5 ts) (hk : Lok ps L) (hp : 0 ≤ pcq ps m b) : Pkn ps L xs m b s := by
  have K := lok_kn hk
  have hm : 0 ≤ m ∧ m < (ps.length : Int) := by
    unfold pcq at hp
    split at hp
    · assumption
    · exact absurd hp (by decide)
  have hx : xs.length = ps.length := by
    have := congrArg List.length (hL.ps.trans K.pl)
    simpa using this
  have hpl : (xs.getD m.toNat zPB).1 = plc ps m.toNat := by
    rw [← K.place m.toNat (by omega), ← hL.ps]
    simp [List.getD_eq_getElem?_getD, show m.toNat < xs.length by omega]
  have hv := K.v m.toNat (by omega)
  obtain ⟨_, _, v3, v4, _, _, _, v8⟩ := vld_en hv
  have r1 := Ra_range K.v m.toNat (by omega)
  have r2 := Ra_range K.v ps.length (Nat.le_refl _)
  have r3 := dsz_range hv
  have n4 := K.n.2
  have n5 : (m.toNat : Int) ≤ 4 := by omega
  refine ⟨hm.1, by rw [hx]; exact hm.2, hm.2, hpl, ?_, ⟨hp, ?_⟩, ?_, ?_, lok_end hk⟩
  · rw [hpl]
    unfold pcq at hp
    rw [if_pos hm] at hp
    by_cases c : b = -1
    · exact .inl c
    · rw [if_neg c] at hp
      right
      split at hp
      · rename_i c2
        simpa [plc] using c2
      · exact absurd hp (by decide)
  · unfold pcq
    rw [if_pos hm]
    by_cases c : b = -1
    · rw [if_pos c]; omega
    · rw [if_neg c]
      by_cases c2 : 0 ≤ b ∧ b < ((ps.getD m.toNat zP).bl.length : Int)
      · rw [if_pos c2]
        have := v8 b.toNat (by omega)
        omega
      · rw [if_neg c2]; omega
  · have : (plc ps m.toNat).data = 65536 + Ra ps m.toNat := rfl
    have e2 : (plc ps m.toNat).size = dsz (ps.getD m.toNat zP) := rfl
    rw [this, e2]
    omega
  · rw [K.st]
    have : (ps.length : Int) ≤ 4 := by omega
    omega
end Go.Proofs.YtngdgogjlpjjpaeGreat
