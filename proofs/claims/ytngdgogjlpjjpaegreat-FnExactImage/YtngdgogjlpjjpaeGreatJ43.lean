import Derived.Test.YtngdgogjlpjjpaeGreatJ04
import Derived.Test.YtngdgogjlpjjpaeGreatJ01
import Derived.Test.YtngdgogjlpjjpaeGreatJ42
import Derived.Test.YtngdgogjlpjjpaeGreatJ02
import Derived.Deep.OwnRows
import Derived.Deep.RegionHeld3
import Derived.Laws.CopyOwn
namespace Go.Proofs.YtngdgogjlpjjpaeGreat
open Go.RowKit
set_option linter.unusedVariables false

/-- WHAT writeFault SAYS. -/
def wff (n1 n2 n3 : Nat) (p s : Int) : Int :=
  if mok n1 n2 n3 = true ∧ wd s = true then
    if (p.tmod s != 0) = true then 1
    else if p = 131072 then (if 5000 ≤ n3 then 4 else 0)
      else if ins p s 0 n1 = true then 3
      else if ins p s 65536 n2 = true then 0 else 2
  else 2
theorem wrm_fault (n1 n2 n3 : Nat) (x1 x2 x3 : List Int) (p s v : Int) (h : wff n1 n2 n3 p s ≠ 0) : wrm n1 n2 n3 x1 x2 x3 p s v = (x1, x2, x3, wff n1 n2 n3 p s) := by
  unfold wff at h ⊢
  unfold wrm
  split
  · next h1 =>
    rw [if_pos h1] at h
    split
    · rfl
    · next h2 =>
      rw [if_neg h2] at h
      split
      · next h3 =>
        rw [if_pos h3] at h
        split
        · rfl
        · next h4 => rw [if_neg h4] at h; exact absurd rfl h
      · next h3 =>
        rw [if_neg h3] at h
        split
        · rfl
        · next h4 =>
          rw [if_neg h4] at h
          split
          · next h5 => rw [if_pos h5] at h; exact absurd rfl h
          · rfl
  · rfl
theorem wff_zero {n1 n2 n3 : Nat} {p s : Int} (h : wff n1 n2 n3 p s = 0) : mok n1 n2 n3 = true ∧ wd s = true ∧ (p.tmod s != 0) = false ∧ ((p = 131072 ∧ n3 < 5000) ∨ (p ≠ 131072 ∧ ins p s 0 n1 = false ∧ ins p s 65536 n2 = true)) := by
  unfold wff at h
  split at h
  · next h1 =>
    split at h
    · omega
    · next h2 =>
      split at h
      · next h3 =>
        split at h
        · omega
        · exact ⟨h1.1, h1.2, by simpa using h2, Or.inl ⟨h3, by omega⟩⟩
      · next h3 =>
        split at h
        · omega
        · next h4 =>
          split at h
          · next h5 => exact ⟨h1.1, h1.2, by simpa using h2, Or.inr ⟨h3, by simpa using h4, h5⟩⟩
          · omega
  · omega

end Go.Proofs.YtngdgogjlpjjpaeGreat

namespace Go.Proofs.YtngdgogjlpjjpaeGreat
open Go.RowKit
set_option linter.unusedVariables false

theorem ob_addr' {w : World} {base n cap : Nat} {a : Option Addr} {zs : List Int} (h : OB w base (.slice a n cap) zs) (hn : n ≠ 0) : ∃ g, a = some ⟨g, 0, none⟩ := by
  obtain ⟨hl, ⟨h0', _⟩ | ⟨g, cap', cur, hv, _⟩⟩ := h.1
  · simp at h0'; exact absurd h0'.2.1 hn
  · simp at hv; exact ⟨g, hv.1⟩
theorem ob_room2 {w : World} {base g n cap m : Nat} {zs : List Int} (h : OB w base (.slice (some ⟨g, 0, none⟩) n cap) zs) (hm : m ≤ n) : Room w g m := by
  obtain ⟨cur, hb, hn⟩ := ob_room h
  exact ⟨cur, hb, by omega⟩

/-- WHAT writeInto LEAVES: the three slices lie at cells o, o + 1, o + 2 of block g. -/
def WiPost (w : World) (g o : Nat) (cs : Array Value) (t : TypeId) (base : Nat) (v1 v2 v3 : Value) (r : List Int × List Int × List Int × Int) (e : Ending) (w' : World) : Prop :=
  ∃ a3 m3 d3, e = .returned (.int .i64 r.2.2.2) ∧ Blk w' g (cs.setIfInBounds (o + 2) (.slice a3 m3 d3)) t ∧ Own3 w' base v1 v2 (.slice a3 m3 d3) r.1 r.2.1 r.2.2.1 ∧ (Value.slice a3 m3 d3).ownBlock ≠ some g ∧ Turn (fun j => j = g ∨ v2.ownBlock = some j ∨ v3.ownBlock = some j) w w'

theorem set_same {cs : Array Value} {i : Nat} {v : Value} (h : cs[i]? = some v) : cs.setIfInBounds i v = cs := by
  apply Array.ext_getElem?
  intro j
  rw [Array.getElem?_setIfInBounds]
  split
  · next e =>
    subst e
    split
    · exact h.symm
    · next hl => rw [Array.getElem?_eq_none (by omega)] at h; cases h
  · rfl

/-- the bytes behind Out, at cell o + 2 of block g -/
theorem own_out {W W' : World} {base g o : Nat} {cs : Array Value} {t : TypeId} {v1 v2 v3 v' : Value} {x1 x2 x3 : List Int} {z : Int} (hk : Blk W g cs t) (ht : t ≠ 5) (h3 : Own3 W base v1 v2 v3 x1 x2 x3)
    (far : ∀ v, v = v1 ∨ v = v2 ∨ v = v3 → v.ownBlock ≠ some g) (hz : 0 ≤ z ∧ z ≤ 255)
    (bs : Nat) (hbs : base ≤ bs) (h1 : ∀ k, v1.ownBlock = some k → k < bs) (h2 : ∀ k, v2.ownBlock = some k → k < bs)
    (ho : W'.ownsRow bs 5 1 v' (x3.length + 1) (x3.map (Value.int .u8) ++ [Value.int .u8 z])) (hg : (W.alloc (.cells #[.int .u8 z] 5)).grownBy W' v3.ownBlock) :
    Blk (W'.setCell ⟨g, o + 2, none⟩ v') g (cs.setIfInBounds (o + 2) v') t ∧ Own3 (W'.setCell ⟨g, o + 2, none⟩ v') base v1 v2 v' x1 x2 (x3 ++ [z]) ∧ v'.ownBlock ≠ some g ∧ Turn (fun j => j = g ∨ v2.ownBlock = some j ∨ v3.ownBlock = some j) W (W'.setCell ⟨g, o + 2, none⟩ v') := by
  have f1 : v1.ownBlock = none ∨ v1.ownBlock ≠ v3.ownBlock := by
    cases e : v1.ownBlock with
    | none => exact Or.inl rfl
    | some k => right; intro e'; exact Nat.lt_irrefl _ (h3.2.2.2.2.1 k k e e'.symm)
  have f2 : v2.ownBlock = none ∨ v2.ownBlock ≠ v3.ownBlock := by
    cases e : v2.ownBlock with
    | none => exact Or.inl rfl
    | some k => right; intro e'; exact Nat.lt_irrefl _ (h3.2.2.2.2.2 k k e e'.symm)
  have ko := grown_blk hg (hk.alloc (.cells #[.int .u8 z] 5)) (fun e => far v3 (Or.inr (Or.inr rfl)) e.symm)
  have hfar : v'.ownBlock ≠ some g := by
    intro e
    obtain ⟨_, ⟨rfl, _⟩ | ⟨g', cap, cur, rfl, hgg, hh, _⟩⟩ := ho
    · simp [Value.ownBlock] at e
    · simp [Value.ownBlock] at e
      subst e
      unfold Blk at ko
      rw [ko] at hh
      simp at hh
      exact ht hh.2
  have o1 := grown_ob hg (own3_alloc h3 (.cells #[.int .u8 z] 5)).1 f1
  have o2 := grown_ob hg (own3_alloc h3 (.cells #[.int .u8 z] 5)).2.1 f2
  have o3 : OB W' bs v' (x3 ++ [z]) := ⟨by simpa using ho, fun y hy => by
    rcases List.mem_append.1 hy with hy | hy
    · exact h3.2.2.1.2 y hy
    · simp at hy; subst hy; exact hz⟩
  refine ⟨ko.set (o + 2) v', ⟨?_, ?_, ?_, h3.2.2.2.1, ?_, ?_⟩, hfar, ?_⟩
  · exact ob_far (g := g) o1 _ _ (far v1 (Or.inl rfl))
  · exact ob_far (g := g) o2 _ _ (far v2 (Or.inr (Or.inl rfl)))
  · exact (ob_far (g := g) o3 _ _ hfar).mono hbs
  · intro k j hk hj
    have := h1 k hk
    have := o3.lt j hj
    omega
  · intro k j hk hj
    have := h2 k hk
    have := o3.lt j hj
    omega
  · have t1 : Turn (fun j => j = g ∨ v2.ownBlock = some j ∨ v3.ownBlock = some j) W (W.alloc (.cells #[.int .u8 z] 5)) := turn_alloc W _
    have t2 : Turn (fun j => j = g ∨ v2.ownBlock = some j ∨ v3.ownBlock = some j) (W.alloc (.cells #[.int .u8 z] 5)) W' :=
      ⟨hg.os, hg.tape, hg.output, hg.size, fun k hk hn => hg.block k hk (fun e => hn (Or.inr (Or.inr e.symm)))⟩
    have t3 : Turn (fun j => j = g ∨ v2.ownBlock = some j ∨ v3.ownBlock = some j) W' (W'.setCell ⟨g, o + 2, none⟩ v') :=
      ⟨rfl, rfl, rfl, by rw [size_setCell]; exact Nat.le_refl _, fun j hj hs => heap_setCell_other _ _ _ _ (fun e => hs (Or.inl e))⟩
    exact (t1.trans t2).trans t3
/-- where the bytes behind Out may lie -/
theorem own_base {W : World} {base : Nat} {v1 v2 v3 : Value} {x1 x2 x3 : List Int} (h : Own3 W base v1 v2 v3 x1 x2 x3) (hb : base ≤ W.heap.size) :
    ∃ bs, base ≤ bs ∧ bs ≤ W.heap.size ∧ (∀ k, v1.ownBlock = some k → k < bs) ∧ (∀ k, v2.ownBlock = some k → k < bs) ∧ W.ownsRow bs 5 1 v3 x3.length (x3.map (Value.int .u8)) := by
  obtain ⟨hl, ⟨h0, h0'⟩ | ⟨g, cap, cur, hv, hg, hh, a1, a2, a3, a4⟩⟩ := h.2.2.1.1
  · exact ⟨W.heap.size, hb, Nat.le_refl _, fun k hk => (h.1.lt k hk).2, fun k hk => (h.2.1.lt k hk).2, hl, .inl ⟨h0, h0'⟩⟩
  · exact ⟨g, hg, Nat.le_of_lt (Blk.lt (w := W) hh), fun k hk => h.2.2.2.2.1 k g hk (by rw [hv]; rfl), fun k hk => h.2.2.2.2.2 k g hk (by rw [hv]; rfl), hl, .inr ⟨g, cap, cur, hv, Nat.le_refl _, hh, a1, a2, a3, a4⟩⟩
/-- bytes of Ram put -/
theorem own_ram {W W' : World} {base g gg : Nat} {v1 v3 : Value} {n cap : Nat} {x1 x2 y2 x3 : List Int} (h3 : Own3 W base v1 (.slice (some ⟨g, 0, none⟩) n cap) v3 x1 x2 x3)
    (ho : Only g W W') (hy : OB W' base (.slice (some ⟨g, 0, none⟩) n cap) y2) : Own3 W' base v1 (.slice (some ⟨g, 0, none⟩) n cap) v3 x1 y2 x3 ∧ Turn (fun j => j = gg ∨ (Value.slice (some ⟨g, 0, none⟩) n cap).ownBlock = some j ∨ v3.ownBlock = some j) W W' := by
  refine ⟨⟨?_, hy, ?_, h3.2.2.2⟩, ?_⟩
  · exact only_ob ho h3.1 (fun e => Nat.lt_irrefl _ (h3.2.2.2.1 g g e rfl))
  · exact only_ob ho h3.2.2.1 (fun e => Nat.lt_irrefl _ (h3.2.2.2.2.2 g g rfl e))
  · obtain ⟨e1, e2, e3, e4, e5⟩ := ho
    refine ⟨by assumption, by assumption, by assumption, by omega, fun k hk hn => e2 k (fun e => hn (Or.inr (Or.inl (by rw [e]; rfl))))⟩

end Go.Proofs.YtngdgogjlpjjpaeGreat

namespace Go.Proofs.YtngdgogjlpjjpaeGreat
open Go.RowKit
set_option linter.unusedVariables false
set_option linter.unusedSimpArgs false
set_option maxRecDepth 100000

theorem only_trans {g : Nat} {a b c : World} (h : Only g a b) (k : Only g b c) : Only g a c := ⟨k.1.trans h.1, fun j hj => (k.2.1 j hj).trans (h.2.1 j hj), k.2.2.1.trans h.2.2.1, k.2.2.2.1.trans h.2.2.2.1, k.2.2.2.2.trans h.2.2.2.2⟩
theorem only_turn' {g : Nat} {w w' : World} (h : Only g w w') : Turn (fun j => j = g) w w' := ⟨h.2.2.1, h.2.2.2.1, h.2.2.2.2, by rw [h.1]; exact Nat.le_refl _, fun k hk hn => h.2.1 k hn⟩
/-- THE FIRST i WORDS at a place -/
def pour (zs : List Int) (k : Nat) (ws : List Int) : Nat → List Int
  | 0 => zs
  | i + 1 => put (pour zs k ws i) (k + 4 * i) (ws.getD i 0) 4
theorem pour_len (zs : List Int) (k : Nat) (ws : List Int) : ∀ i, (pour zs k ws i).length = zs.length
  | 0 => rfl
  | i + 1 => by rw [pour, put_len, pour_len zs k ws i]

set_option maxHeartbeats 2000000 in
theorem l5Pour_any (g n cap k : Nat) (a : Option Addr) (wn wc : Nat) (ws zs : List Int) (base : Nat) (w0 w : World) (h0 : IS w0 a wn wc ws) (hb : Below w0.heap.size w0 w) (hg : w0.heap.size ≤ g) (ho : OB w base (.slice (some ⟨g, 0, none⟩) n cap) zs) (hn : n ≤ 16384) (hk : k + 4 * wn ≤ n) (hw : ∀ i, i < wn → 0 ≤ ws.getD i 0 ∧ ws.getD i 0 ≤ 4294967295) :
    Calls Tryz.prog 82 #[.slice (some ⟨g, 0, none⟩) n cap, .int .i64 k, .slice a wn wc] w fun e w' => e = .returned (.tuple #[]) ∧ OB w' base (.slice (some ⟨g, 0, none⟩) n cap) (pour zs k ws wn) ∧ Only g w w' := by
  have HO := hide ho
  have HB := hide hb
  clear ho hb
  go_enter Tryz.func82, Tryz.ntmps82
  go_wp2
  go_loopw [6] (fun i wr => ∃ m : Nat, m ≤ wn ∧ i = .int .i64 m ∧ OB wr base (.slice (some ⟨g, 0, none⟩) n cap) (pour zs k ws m) ∧ Only g w wr) (fun i _ => wn - (intOf i).toNat)
  case atStart => exact ⟨0, Nat.zero_le _, rfl, HO.out, only_refl _ _⟩
  case round =>
    obtain ⟨m, hm, rfl, O, T⟩ := hrel
    by_cases hlt : m < wn
    · have hlt' : (m : Int) < (wn : Int) := by omega
      obtain ⟨b, off, rfl, hc⟩ := (h0.below (only_below HB.out T hg)).2.2.2.1 (by omega)
      have q := hc m hlt
      obtain ⟨v0, v1⟩ := hw m hlt
      have HP := hide (l1Put_any g n cap (k + 4 * m) 4 (ws.getD m 0) wr (ob_room O) hn (by omega) (by omega) (by omega) v0 v1)
      have HX := hide (And.intro (ob_put O (k + 4 * m) (ws.getD m 0) 4 (by omega)) (only_trans T (only_put g (k + 4 * m) (ws.getD m 0) wr 4)))
      have HE := hide (show pour zs k ws (m + 1) = put (pour zs k ws m) (k + 4 * m) (ws.getD m 0) 4 from rfl)
      have hkm : ((k + 4 * m : Nat) : Int) = (k : Int) + 4 * (m : Int) := by omega
      rw [hkm] at HP
      clear O T hc
      generalize ws.getD m 0 = v at *
      go_wp2_with fail
      refine HP.out.mono ?_
      rintro e w1 ⟨rfl, rfl⟩
      go_wp2
      go_roundw
      case rel => exact ⟨m + 1, by omega, by go_num, by rw [HE.out]; exact HX.out.1, HX.out.2⟩
      case measure => simp [intOf]; omega
    · have e : Hid (m = wn) := by show m = wn; omega
      have HX := hide (And.intro O T)
      clear O T
      go_wp2
      go_end0
      exact ⟨rfl, by have := HX.out.1; rw [e.out] at this; exact this, HX.out.2⟩

set_option maxHeartbeats 2000000 in
theorem putWords_any (g n cap k m c : Nat) (a : Option Addr) (wn wc : Nat) (ws zs : List Int) (base : Nat) (w0 w : World) (h0 : IS w0 a wn wc ws) (hb : Below w0.heap.size w0 w) (hg : w0.heap.size ≤ g) (ho : OB w base (.slice (some ⟨g, 0, none⟩) n cap) zs) (hn : n ≤ 16384) (hk : k + 4 * wn ≤ n) (hm : 4 * wn ≤ m) (hc : m ≤ c) (hc2 : c ≤ 16384) :
    Calls Tryz.prog 178 #[.slice (some ⟨g, k, none⟩) m c, .slice a wn wc] w fun e w' => e = .returned (.tuple #[]) ∧ OB w' base (.slice (some ⟨g, 0, none⟩) n cap) (pour zs k ws wn) ∧ Only g w w' := by
  have HO := hide ho
  have HB := hide hb
  clear ho hb
  go_enter Tryz.func178, Tryz.ntmps178
  go_wp2
  go_loopw [8] (fun i wr => ∃ j : Nat, j ≤ wn ∧ i = .int .i64 j ∧ OB wr base (.slice (some ⟨g, 0, none⟩) n cap) (pour zs k ws j) ∧ Only g w wr) (fun i _ => wn - (intOf i).toNat)
  case atStart => exact ⟨0, Nat.zero_le _, rfl, HO.out, only_refl _ _⟩
  case round =>
    obtain ⟨j, hj, rfl, O, T⟩ := hrel
    by_cases hlt : j < wn
    · have hlt' : (j : Int) < (wn : Int) := by omega
      obtain ⟨b, off, rfl, hcc⟩ := (h0.below (only_below HB.out T hg)).2.2.2.1 (by omega)
      have q := hcc j hlt
      have wv : -9223372036854775808 ≤ ws.getD j 0 ∧ ws.getD j 0 ≤ 9223372036854775807 := h0.2.2.1 _ (by have := h0.1; simp [List.getD_eq_getElem?_getD, show j < ws.length by omega])
      have HP := hide (putBytes_4 g (m - 4 * j) (c - 4 * j) (k + 4 * j) (ws.getD j 0) wr (ob_room2 O (by omega)) (by omega) wv)
      have HX := hide (And.intro (ob_putD4 O (k + 4 * j) (ws.getD j 0) (by omega)) (only_trans T (only_putD4 g (k + 4 * j) (ws.getD j 0) wr)))
      have HE := hide (show pour zs k ws (j + 1) = put (pour zs k ws j) (k + 4 * j) (ws.getD j 0) 4 from rfl)
      have t0 : (0 : Int) ≤ 4 * (j : Int) := by omega
      have t1 : 4 * (j : Int) ≤ (m : Int) := by omega
      have t2 : 4 * (j : Int) < (c : Int) := by omega
      have t3 : (4 * (j : Int)).toNat = 4 * j := by omega
      clear O T hcc wv
      generalize ws.getD j 0 = v at *
      go_wp2_with fail
      refine HP.out.mono ?_
      rintro e w1 ⟨rfl, rfl⟩
      go_wp2
      go_roundw
      case rel => exact ⟨j + 1, by omega, by go_num, by rw [HE.out]; exact HX.out.1, HX.out.2⟩
      case measure => simp [intOf]; omega
    · have e : Hid (j = wn) := by show j = wn; omega
      have HX := hide (And.intro O T)
      clear O T
      go_wp2
      go_end0
      exact ⟨rfl, by have := HX.out.1; rw [e.out] at this; exact this, HX.out.2⟩
end Go.Proofs.YtngdgogjlpjjpaeGreat

namespace Go.Proofs.YtngdgogjlpjjpaeGreat
open Go.RowKit
set_option linter.unusedVariables false
set_option linter.unusedSimpArgs false
set_option maxRecDepth 100000

/-- cells of zero -/
def zby (n : Nat) : Array Value := ((List.replicate n (0:Int)).map (Value.int .u8)).toArray
theorem make8 (n : Nat) (hn : n ≤ 16384) (W : World) : (Instr.makeSlice 41 (.int .i64 (n : Int)) (.int .i64 (n : Int))).run Tryz.prog W = .ok (.slice (some ⟨W.heap.size, 0, none⟩) n n) (W.alloc (.cells (zby n) 5)) := by
  rw [run_make_row' 41 5 (.int .u8 0) 1 Tryz.underlying41 info8 rfl .i64 .i64 n (by omega) (by omega) W]
  have := made8 n
  rw [Nat.mul_one] at this
  unfold zby
  rw [← this]
  rfl
theorem zby_ob {W : World} {g base n : Nat} (h : Blk W g (zby n) 5) (hg : base ≤ g) (hn : n ≤ 16384) : OB W base (.slice (some ⟨g, 0, none⟩) n n) (List.replicate n 0) := by
  refine ⟨⟨by simp, .inr ⟨g, n, zby n, by simp, hg, h, by simp, by unfold maxLen; omega, by simp [zby], ?_⟩⟩, fun z hz => by have := List.eq_of_mem_replicate hz; omega⟩
  unfold zby
  simp only [List.toList_toArray, List.length_replicate, Nat.mul_one]
  exact List.take_of_length_le (by simp)
/-- the words of a module at its place -/
def pourB (zs : List Int) (P : PMod) (p : Pl) : Nat → List Int
  | 0 => pour zs p.text.toNat P.tz P.tz.length
  | j + 1 => pour (pourB zs P p j) (p.banks.getD j 0).toNat (P.bl.getD j []) (P.bl.getD j []).length
theorem pourB_len (zs : List Int) (P : PMod) (p : Pl) : ∀ j, (pourB zs P p j).length = zs.length
  | 0 => pour_len _ _ _ _
  | j + 1 => by rw [pourB, pour_len, pourB_len zs P p j]
/-- FLASH behind the first modules -/
def flB (ps : List PMod) (L : Lay) : Nat → List Int
  | 0 => List.replicate L.flash.toNat 0
  | i + 1 => pourB (flB ps L i) (ps.getD i zP) (L.places.getD i zPB.1) (ps.getD i zP).bl.length
/-- the words that are moved -/
def relB (zs : List Int) (f : Nat) (rz : List Int) (d : Int) : Nat → List Int
  | 0 => zs
  | j + 1 => put (relB zs f rz d j) (f + (rz.getD j 0).toNat) (low (((relB zs f rz d j).drop (f + (rz.getD j 0).toNat)).take 4) + d) 4
theorem relB_len (zs : List Int) (f : Nat) (rz : List Int) (d : Int) : ∀ j, (relB zs f rz d j).length = zs.length
  | 0 => rfl
  | j + 1 => by rw [relB, put_len, relB_len zs f rz d j]
/-- data laid over -/
def ovr (zs : List Int) (f : Nat) (ds : List Int) : List Int := zs.take f ++ (ds ++ zs.drop (f + ds.length))
theorem ovr_len (zs : List Int) (f : Nat) (ds : List Int) (h : f + ds.length ≤ zs.length) : (ovr zs f ds).length = zs.length := by simp [ovr]; omega
/-- RAM behind the first modules -/
def raB (ps : List PMod) (L : Lay) : Nat → List Int
  | 0 => List.replicate L.ram.toNat 0
  | i + 1 => relB (ovr (raB ps L i) ((L.places.getD i zPB.1).data - 65536).toNat (ps.getD i zP).dz) ((L.places.getD i zPB.1).data - 65536).toNat (ps.getD i zP).rz (L.places.getD i zPB.1).data (ps.getD i zP).rz.length
theorem flB_len (ps : List PMod) (L : Lay) : ∀ i, (flB ps L i).length = L.flash.toNat
  | 0 => by simp [flB]
  | i + 1 => by rw [flB, pourB_len, flB_len ps L i]
theorem lkc_big {ps : List PMod} {s w k d : Int} (h : lkc ps s w k d = 0) : (lay ps s w k).flash ≤ 16384 ∧ (lay ps s w k).ram ≤ 16384 := by
  unfold lkc at h
  split at h
  · rename_i h1; exact absurd h h1
  split at h
  · exact absurd h (by decide)
  split at h
  · exact absurd h (by decide)
  split at h
  · exact absurd h (by decide)
  split at h
  · exact absurd h (by decide)
  rename_i h1 h2
  omega
theorem Fl_mono {ps : List PMod} (hv : vlds ps) : ∀ i j, i ≤ j → j ≤ ps.length → Fl ps i ≤ Fl ps j
  | i, 0, h, _ => by have : i = 0 := by omega
                     subst this; exact Int.le_refl _
  | i, j + 1, h, hj => by
    by_cases e : i = j + 1
    · subst e; exact Int.le_refl _
    · have h1 := Fl_mono hv i j (by omega) (by omega)
      have hm := hv j (by omega)
      have h2 := tsz_range hm
      have h3 := fsum_range hm _ (Nat.le_refl _)
      show Fl ps i ≤ Fl ps j + (tsz (ps.getD j zP) + fsum (ps.getD j zP) (ps.getD j zP).bl.length)
      omega
theorem Ra_mono {ps : List PMod} (hv : vlds ps) : ∀ i j, i ≤ j → j ≤ ps.length → Ra ps i ≤ Ra ps j
  | i, 0, h, _ => by have : i = 0 := by omega
                     subst this; exact Int.le_refl _
  | i, j + 1, h, hj => by
    by_cases e : i = j + 1
    · subst e; exact Int.le_refl _
    · have h1 := Ra_mono hv i j (by omega) (by omega)
      have h2 := dsz_range (hv j (by omega))
      show Ra ps i ≤ Ra ps j + dsz (ps.getD j zP)
      omega
theorem fsum_mono {P : PMod} (hv : mdoP P = 0) : ∀ i j, i ≤ j → j ≤ P.bl.length → fsum P i ≤ fsum P j
  | i, 0, h, _ => by have : i = 0 := by omega
                     subst this; exact Int.le_refl _
  | i, j + 1, h, hj => by
    by_cases e : i = j + 1
    · subst e; exact Int.le_refl _
    · have h1 := fsum_mono hv i j (by omega) (by omega)
      have h2 := rnd_range (x := 4 * ((P.bl.getD j []).length : Int)) (by omega)
      show fsum P i ≤ fsum P j + rnd (4 * ((P.bl.getD j []).length : Int))
      omega
/-- WHAT IS KNOWN OF A LAYOUT that some configuration gives -/
structure Lkn (ps : List PMod) (L : Lay) : Prop where
  n : 1 ≤ ps.length ∧ ps.length ≤ 4
  v : vlds ps
  im : imps ps
  pl : L.places = (List.range ps.length).map (plc ps)
  fl : L.flash = Fl ps ps.length
  fr : 0 ≤ L.flash ∧ L.flash ≤ 16384
  ra : Ra ps ps.length ≤ L.ram
  rr : 0 ≤ L.ram ∧ L.ram ≤ 16384
  tg : L.targets = (List.range ps.length).map fun i => tgs ps (ps.getD i zP)
  st : L.stack = 65536 + Ra ps ps.length
theorem lok_kn {ps : List PMod} {L : Lay} (h : Lok ps L) : Lkn ps L := by
  obtain ⟨h1, h2⟩ := h
  have e : lay ps (L.slots.length : Int) (cfW L) (cfK L) = L := by unfold lkL at h2; rw [if_pos h1] at h2; exact h2
  obtain ⟨hc, n1, n2, hv, hi⟩ := lkc_facts h1
  obtain ⟨b1, b2⟩ := lkc_big h1
  unfold cfo at hc
  simp at hc
  have a1 := Fl_range hv ps.length (Nat.le_refl _)
  have a2 := Ra_range hv ps.length (Nat.le_refl _)
  have a3 : (0 : Int) ≤ ((L.slots.length : Int).toNat : Int) * rnd (4 * cfW L) := Int.mul_nonneg (by omega) (by have := rnd_range (x := 4 * cfW L) (by omega); omega)
  have e1 : L.flash = Fl ps ps.length := by rw [← e]; rfl
  have e2 : L.ram = Ra ps ps.length + cfK L + ((L.slots.length : Int).toNat : Int) * rnd (4 * cfW L) := by
    have := congrArg Lay.ram e
    rw [← this]; rfl
  rw [e] at b1 b2
  exact ⟨⟨n1, n2⟩, hv, hi, by rw [← e]; rfl, e1, ⟨by omega, b1⟩, by omega, ⟨by omega, b2⟩, by rw [← e]; rfl, by have := congrArg Lay.stack e; rw [← this]; rfl⟩
theorem Lkn.place {ps : List PMod} {L : Lay} (h : Lkn ps L) (i : Nat) (hi : i < ps.length) : L.places.getD i zPB.1 = plc ps i := by
  rw [h.pl]
  simp [List.getD_eq_getElem?_getD, hi]
theorem vld_rl {P : PMod} (h : mdoP P = 0) : ∀ j, j < P.rz.length → 0 ≤ P.rz.getD j 0 ∧ P.rz.getD j 0 + 4 ≤ (P.dz.length : Int) := by
  unfold mdoP mdo at h
  split at h
  · exact absurd h (by decide)
  split at h
  · exact absurd h (by decide)
  split at h
  · exact absurd h (by decide)
  split at h
  · exact absurd h (by decide)
  rename_i h1 h2 h3 h4
  intro j hj
  have h5 : rlo P.rz.length P.rz P.dz.length = true := by simpa using h4
  unfold rlo at h5
  rw [Bool.and_eq_true, List.all_eq_true] at h5
  have h6 := h5.2 j (by simpa using hj)
  unfold rlk at h6
  rw [decide_eq_true_eq] at h6
  omega
theorem getD_mem {α : Type} (l : List α) (i : Nat) (z : α) (h : i < l.length) : l.getD i z ∈ l := by simp [List.getD_eq_getElem?_getD, h]
theorem range_getD {α : Type} (f : Nat → α) (n j : Nat) (z : α) (h : j < n) : ((List.range n).map f).getD j z = f j := by simp [List.getD_eq_getElem?_getD, h]
theorem vld_wd {P : PMod} (h : mdoP P = 0) : (∀ i, i < P.tz.length → 0 ≤ P.tz.getD i 0 ∧ P.tz.getD i 0 ≤ 4294967295) ∧ ∀ k, k < P.bl.length → ∀ i, i < (P.bl.getD k []).length → 0 ≤ (P.bl.getD k []).getD i 0 ∧ (P.bl.getD k []).getD i 0 ≤ 4294967295 := by
  unfold mdoP at h
  have V := vm_of_mdo (by simp [bkOf]) h
  refine ⟨fun i hi => V.tw _ (by simp [List.getD_eq_getElem?_getD, hi]), fun k hk i hi => ?_⟩
  have := (V.bw k (by simp [bkOf]; exact hk)).2 ((P.bl.getD k []).getD i 0) (by
    have e : ((bkOf P.bl).getD k zB).2.2.2 = P.bl.getD k [] := by simp [bkOf, List.getD_eq_getElem?_getD, hk]
    rw [e]
    exact getD_mem _ _ _ hi)
  exact this
/-- where a module's things lie -/
theorem Lkn.at {ps : List PMod} {L : Lay} (h : Lkn ps L) (i : Nat) (hi : i < ps.length) :
    (0 ≤ (plc ps i).text ∧ (plc ps i).text + 4 * ((ps.getD i zP).tz.length : Int) ≤ L.flash) ∧ (plc ps i).banks.length = (ps.getD i zP).bl.length ∧ (∀ j, j < (ps.getD i zP).bl.length → 0 ≤ (plc ps i).banks.getD j 0 ∧ (plc ps i).banks.getD j 0 + 4 * (((ps.getD i zP).bl.getD j []).length : Int) ≤ L.flash) ∧ (65536 ≤ (plc ps i).data ∧ (plc ps i).data - 65536 + ((ps.getD i zP).dz.length : Int) ≤ L.ram) := by
  have hm := h.v i hi
  have a1 := Fl_range h.v i (by omega)
  have a2 := Fl_mono h.v (i + 1) ps.length (by omega) (Nat.le_refl _)
  have a3 : Fl ps (i + 1) = Fl ps i + (tsz (ps.getD i zP) + fsum (ps.getD i zP) (ps.getD i zP).bl.length) := rfl
  have a4 := fsum_range hm _ (Nat.le_refl _)
  have a5 := rnd_range (x := 4 * ((ps.getD i zP).tz.length : Int)) (by omega)
  have a6 : tsz (ps.getD i zP) = rnd (4 * ((ps.getD i zP).tz.length : Int)) := rfl
  have b1 := Ra_range h.v i (by omega)
  have b2 := Ra_mono h.v (i + 1) ps.length (by omega) (Nat.le_refl _)
  have b3 : Ra ps (i + 1) = Ra ps i + dsz (ps.getD i zP) := rfl
  have b4 := vld_en hm
  have b5 := rnd_range (x := ((ps.getD i zP).dz.length : Int) + (ps.getD i zP).bss) (by omega)
  have b6 : dsz (ps.getD i zP) = rnd (((ps.getD i zP).dz.length : Int) + (ps.getD i zP).bss) := rfl
  have hfl := h.fl
  have hra := h.ra
  refine ⟨⟨a1.1, ?_⟩, by simp [plc], fun j hj => ?_, ?_, ?_⟩
  · show Fl ps i + 4 * _ ≤ _
    omega
  · have c1 := fsum_range hm j (by omega)
    have c2 := fsum_mono hm (j + 1) (ps.getD i zP).bl.length (by omega) (Nat.le_refl _)
    have c3 : fsum (ps.getD i zP) (j + 1) = fsum (ps.getD i zP) j + rnd (4 * (((ps.getD i zP).bl.getD j []).length : Int)) := rfl
    have c4 := rnd_range (x := 4 * (((ps.getD i zP).bl.getD j []).length : Int)) (by omega)
    have e : (plc ps i).banks.getD j 0 = Fl ps i + tsz (ps.getD i zP) + fsum (ps.getD i zP) j := range_getD _ _ _ _ hj
    rw [e]
    have c5 := tsz_range hm
    omega
  · show 65536 ≤ 65536 + Ra ps i
    omega
  · show 65536 + Ra ps i - 65536 + _ ≤ _
    omega
end Go.Proofs.YtngdgogjlpjjpaeGreat

namespace Go.Proofs.YtngdgogjlpjjpaeGreat
open Go.RowKit
set_option linter.unusedVariables false
set_option linter.unusedSimpArgs false
set_option maxRecDepth 100000

theorem cut5 {S F : Nat → Nat → Nat → Nat → World → Prop} {G : Prop} (main : (∀ a b c d W, F a b c d W → S a b c d W) → G) (pf : ∀ a b c d W, F a b c d W → S a b c d W) : G := main pf

theorem cell_alloc' {W : World} {b o : Nat} {v : Value} {x : Obj} (h : W.cell? ⟨b, o, none⟩ = some v) : (W.alloc x).cell? ⟨b, o, none⟩ = some v := cell_below ((Below.refl _ _).alloc (Nat.le_refl _) _) h
theorem cell_drew' {W : World} {b o : Nat} {v : Value} (h : W.cell? ⟨b, o, none⟩ = some v) : W.drew.cell? ⟨b, o, none⟩ = some v := h
theorem cell_set' {W : World} {b o g i : Nat} {v u : Value} (hb : b < g) (h : W.cell? ⟨b, o, none⟩ = some v) : (W.setCell ⟨g, i, none⟩ u).cell? ⟨b, o, none⟩ = some v := (cellO (.inl (by omega))).trans h

/-- the rows of a memory that was made, and its box -/
structure Mk4 (N : Nat) (w1 W : World) (ZF ZR : Array Value) (F R gf gr go gm : Nat) : Prop where
  be : Below N w1 W
  f : Blk W gf ZF 5
  r : Blk W gr ZR 5
  o : Blk W go #[] 5
  m : Blk W gm #[.slice (some ⟨gf, 0, none⟩) F F, .slice (some ⟨gr, 0, none⟩) R R, .slice (some ⟨go, 0, none⟩) 0 0] 50
  lo : N ≤ gf ∧ N ≤ gr ∧ N ≤ go ∧ N ≤ gm
  ne : gf ≠ gr ∧ gf ≠ go ∧ gr ≠ go
theorem drew_sz' (w : World) : w.drew.heap.size = w.heap.size := rfl
theorem blk_drew {W : World} {g : Nat} {cs : Array Value} {t : TypeId} (h : Blk W g cs t) : Blk W.drew g cs t := h
theorem blk_new' {W : World} {g : Nat} {cs : Array Value} {t : TypeId} (h : g = W.heap.size) : Blk (W.alloc (.cells cs t)) g cs t := by subst h; exact Blk.new W cs t
theorem blk_other' {W : World} {g b i : Nat} {cs : Array Value} {t : TypeId} {v : Value} (hn : g ≠ b) (h : Blk W g cs t) : Blk (W.setCell ⟨b, i, none⟩ v) g cs t := h.other _ _ hn
theorem blk_set3 {W : World} {g : Nat} {t : TypeId} {v0 v1 v2 : Value} (h : Blk W g #[.slice none 0 0, .slice none 0 0, .slice none 0 0] t) : Blk (((W.setCell ⟨g, 0, none⟩ v0).setCell ⟨g, 1, none⟩ v1).setCell ⟨g, 2, none⟩ v2) g #[v0, v1, v2] t := by
  have := ((h.set 0 v0).set 1 v1).set 2 v2
  simpa only [List.setIfInBounds_toArray, List.set_cons_zero, List.set_cons_succ] using this
theorem bel_alloc {N : Nat} {a W : World} {x : Obj} (hN : N ≤ a.heap.size) (h : Below N a W) : Below N a (W.alloc x) := h.alloc (Nat.le_trans hN h.size) _
theorem bel_set {N : Nat} {a W : World} {g i : Nat} {v : Value} (hg : N ≤ g) (h : Below N a W) : Below N a (W.setCell ⟨g, i, none⟩ v) := h.setCell (p := ⟨g, i, none⟩) hg v
theorem bel_drew {N : Nat} {a W : World} (h : Below N a W) : Below N a W.drew := h.drew

/-- THE STATE of Image: its boxes, the rows of the memory -/
structure ImS (w : World) (V : Array Value) (F R gf gr go gm : Nat) (fz rz : List Int) (W : World) : Prop where
  be : Below w.heap.size w W
  kl : Blk W w.heap.size V 36
  kr : Blk W (w.heap.size + 1) #[.slice none 0 0, .slice none 0 0, .slice none 0 0] 50
  km : Blk W gm #[.slice (some ⟨gf, 0, none⟩) F F, .slice (some ⟨gr, 0, none⟩) R R, .slice (some ⟨go, 0, none⟩) 0 0] 50
  f : OB W w.heap.size (.slice (some ⟨gf, 0, none⟩) F F) fz
  r : OB W w.heap.size (.slice (some ⟨gr, 0, none⟩) R R) rz
  o : Blk W go #[] 5
  lo : w.heap.size + 1 < gf ∧ w.heap.size + 1 < gr ∧ w.heap.size + 1 < go ∧ w.heap.size + 1 < gm
  ne : gf ≠ gr ∧ gf ≠ go ∧ gr ≠ go
section
variable {w : World} {V : Array Value} {F R gf gr go gm : Nat} {fz rz : List Int} {W W' : World}
theorem ImS.below (h : ImS w V F R gf gr go gm fz rz W) (hb : Below W.heap.size W W') : ImS w V F R gf gr go gm fz rz W' := ⟨h.be.trans (hb.mono h.be.size), h.kl.below hb, h.kr.below hb, h.km.below hb, h.f.below hb, h.r.below hb, h.o.below hb, h.lo, h.ne⟩
theorem ob_blk {base g n c : Nat} {zs : List Int} (h : OB W base (.slice (some ⟨g, 0, none⟩) n c) zs) : ∃ cs, Blk W g cs 5 := own_kind h.1 rfl
theorem ImS.mf (h : ImS w V F R gf gr go gm fz rz W) : gm ≠ gf ∧ gm ≠ gr := by
  obtain ⟨c1, k1⟩ := ob_blk h.f
  obtain ⟨c2, k2⟩ := ob_blk h.r
  exact ⟨fun e => by subst e; exact absurd (blk_kind h.km k1) (by decide), fun e => by subst e; exact absurd (blk_kind h.km k2) (by decide)⟩
theorem ImS.setf (h : ImS w V F R gf gr go gm fz rz W) {fz' : List Int} (O : OB W' w.heap.size (.slice (some ⟨gf, 0, none⟩) F F) fz') (T : Only gf W W') : ImS w V F R gf gr go gm fz' rz W' :=
  ⟨only_below h.be T (by have := h.lo; omega), only_blk T h.kl (by have := h.lo; omega), only_blk T h.kr (by have := h.lo; omega), only_blk T h.km h.mf.1, O, only_ob T h.r (by have := h.ne.1; simp [Value.ownBlock]; omega), only_blk T h.o (by have := h.ne; omega), h.lo, h.ne⟩
theorem ImS.setr (h : ImS w V F R gf gr go gm fz rz W) {rz' : List Int} (O : OB W' w.heap.size (.slice (some ⟨gr, 0, none⟩) R R) rz') (T : Only gr W W') : ImS w V F R gf gr go gm fz rz' W' :=
  ⟨only_below h.be T (by have := h.lo; omega), only_blk T h.kl (by have := h.lo; omega), only_blk T h.kr (by have := h.lo; omega), only_blk T h.km h.mf.2, only_ob T h.f (by have := h.ne.1; simp [Value.ownBlock]; omega), O, only_blk T h.o (by have := h.ne; omega), h.lo, h.ne⟩
/-- .. with a place's box -/
structure Im5 (w : World) (V : Array Value) (F R gf gr go gm gp : Nat) (PV : Array Value) (fz rz : List Int) (W : World) : Prop where
  s : ImS w V F R gf gr go gm fz rz W
  p : Blk W gp PV 138
variable {gp : Nat} {PV : Array Value}
theorem Im5.below (h : Im5 w V F R gf gr go gm gp PV fz rz W) (hb : Below W.heap.size W W') : Im5 w V F R gf gr go gm gp PV fz rz W' := ⟨h.s.below hb, h.p.below hb⟩
theorem Im5.drew (h : Im5 w V F R gf gr go gm gp PV fz rz W) : Im5 w V F R gf gr go gm gp PV fz rz W.drew := h.below (Below.refl _ _).drew
theorem Im5.pf (h : Im5 w V F R gf gr go gm gp PV fz rz W) : gp ≠ gf ∧ gp ≠ gr := by
  obtain ⟨c1, k1⟩ := ob_blk h.s.f
  obtain ⟨c2, k2⟩ := ob_blk h.s.r
  exact ⟨fun e => by subst e; exact absurd (blk_kind h.p k1) (by decide), fun e => by subst e; exact absurd (blk_kind h.p k2) (by decide)⟩
theorem Im5.setf (h : Im5 w V F R gf gr go gm gp PV fz rz W) {fz' : List Int} (O : OB W' w.heap.size (.slice (some ⟨gf, 0, none⟩) F F) fz') (T : Only gf W W') : Im5 w V F R gf gr go gm gp PV fz' rz W' := ⟨h.s.setf O T, only_blk T h.p h.pf.1⟩
theorem Im5.setr (h : Im5 w V F R gf gr go gm gp PV fz rz W) {rz' : List Int} (O : OB W' w.heap.size (.slice (some ⟨gr, 0, none⟩) R R) rz') (T : Only gr W W') : Im5 w V F R gf gr go gm gp PV fz rz' W' := ⟨h.s.setr O T, only_blk T h.p h.pf.2⟩
end
end Go.Proofs.YtngdgogjlpjjpaeGreat

namespace Go.Proofs.YtngdgogjlpjjpaeGreat
open Go.RowKit
set_option linter.unusedVariables false
set_option linter.unusedSimpArgs false
set_option maxRecDepth 100000

theorem ob_row8 {W : World} {base g n : Nat} {zs : List Int} (h : OB W base (.slice (some ⟨g, 0, none⟩) n n) zs) : W.heap[g]? = some (.cells (zs.map (Value.int .u8)).toArray 5 (0, 0)) ∧ zs.length = n ∧ base ≤ g ∧ n ≤ maxLen := by
  obtain ⟨hl, ⟨h0, _⟩ | ⟨g', cap', cur, hv, hg, hh, h1, h2, h3, h4⟩⟩ := h.1
  · simp at h0
  · simp at hv
    obtain ⟨rfl, rfl, rfl⟩ := hv
    refine ⟨?_, rfl, hg, by omega⟩
    have e : cur.toList = zs.map (Value.int .u8) := by rw [← h4, List.take_of_length_le (by simp [h3])]
    rw [hh, ← e]
theorem ovr_map (zs : List Int) (f : Nat) (ds : List Int) : splice (zs.map (Value.int .u8)) f (ds.map (Value.int .u8)) = (ovr zs f ds).map (Value.int .u8) := by
  simp [splice, ovr, List.map_take, List.map_drop]
theorem ovr_range {zs ds : List Int} {f : Nat} (hz : ∀ z ∈ zs, 0 ≤ z ∧ z ≤ 255) (hd : ∀ z ∈ ds, 0 ≤ z ∧ z ≤ 255) : ∀ z ∈ ovr zs f ds, 0 ≤ z ∧ z ≤ 255 := fun z h => by
  unfold ovr at h
  rcases List.mem_append.1 h with h | h
  · exact hz z (List.mem_of_mem_take h)
  · rcases List.mem_append.1 h with h | h
    · exact hd z h
    · exact hz z (List.mem_of_mem_drop h)
theorem ovr_nil (zs : List Int) (f : Nat) : ovr zs f [] = zs := by simp [ovr]
theorem only_setRow (g : Nat) (w : World) (cs : Array Value) : Only g w (w.setRow g cs) := ⟨by simp [World.setRow], fun k hk => setRow_other w g k cs hk, rfl, rfl, rfl⟩
theorem ob_of_row {W : World} {base g n : Nat} {zs : List Int} (h : W.heap[g]? = some (.cells (zs.map (Value.int .u8)).toArray 5 (0, 0))) (hl : zs.length = n) (hg : base ≤ g) (hm : n ≤ maxLen) (hr : ∀ z ∈ zs, 0 ≤ z ∧ z ≤ 255) : OB W base (.slice (some ⟨g, 0, none⟩) n n) zs := by
  subst hl
  refine ⟨⟨by simp, .inr ⟨g, zs.length, _, rfl, hg, h, Nat.le_refl _, hm, by simp, ?_⟩⟩, hr⟩
  simp only [List.toList_toArray, Nat.mul_one]
  exact List.take_of_length_le (by simp)
/-- what copy does to a row of bytes -/
theorem copy_run {W : World} {base g n f : Nat} {zs ds : List Int} (ho : OB W base (.slice (some ⟨g, 0, none⟩) n n) zs) (ty : TypeId) (dp sp : Option Addr) (dLen dCap sLen sCap : Nat) (hds : BS W sp sLen sCap ds) (hle : sLen ≤ dLen) (hfit : f + sLen ≤ n) (hpos : 0 < sLen → dp = some ⟨g, f, none⟩) :
    ∃ w', (Builtin.copy_ #[41, 41] ty #[.slice dp dLen dCap, .slice sp sLen sCap]).run Tryz.prog W = .ok (goInt sLen) w' ∧ OB w' base (.slice (some ⟨g, 0, none⟩) n n) (ovr zs f ds) ∧ Only g W w' := by
  obtain ⟨hrow, hlz, hg, hm⟩ := ob_row8 ho
  have hld := hds.1
  have hi8 : (Tryz.prog.info? 5).map (·.size) = some 1 := by kernel_rfl
  by_cases h0 : sLen = 0
  · subst h0
    obtain rfl : ds = [] := List.eq_nil_of_length_eq_zero hld
    exact ⟨W, run_copy_none (P := Tryz.prog) W _ _ ty 5 dp sp dLen dCap 0 sCap Tryz.underlying41 hi8 (by simp), by rw [ovr_nil]; exact ho, only_refl _ _⟩
  · obtain ⟨b, off, rfl, hc⟩ := hds.2.2.2.1 h0
    rw [hpos (by omega)]
    subst hld
    have hrun := run_copy_row (P := Tryz.prog) W 41 41 ty 5 g f dLen dCap ⟨b, off, none⟩ ds.length sCap (zs.map (Value.int .u8)).toArray 5 (ds.map (Value.int .u8)) Tryz.underlying41 hi8 hrow (by rw [List.length_map]; exact (Nat.min_eq_left hle).symm) (fun j v hj => by
      have hjl : j < ds.length := by
        rcases Nat.lt_or_ge j ds.length with h1 | h1
        · exact h1
        · rw [List.getElem?_eq_none (by simp; omega)] at hj; cases hj
      rw [addr_add, hc j hjl, ← hj]
      simp [List.getD_eq_getElem?_getD, show j < ds.length by omega]) (by simp; omega) (fun v hv => by
      simp at hv
      obtain ⟨z, _, rfl⟩ := hv
      rfl)
    rw [List.length_map] at hrun
    refine ⟨_, hrun, ?_, only_setRow _ _ _⟩
    refine ob_of_row ?_ (by rw [ovr_len _ _ _ (by omega)]; exact hlz) hg hm (ovr_range ho.2 hds.2.2.1)
    have := setRow_heap W g (zs.map (Value.int .u8)).toArray (splice (zs.map (Value.int .u8)) f (ds.map (Value.int .u8))).toArray 5 (0, 0) hrow
    rw [ovr_map] at this
    rw [← ovr_map] at this ⊢
    simpa [splice] using this
theorem step_copy_ob {ops : Array Oper} {o : Oper} {a : Act} {W : World} {K : Act → World → Prop} {Q : Exit → Act → World → Prop} {E : Prop} {base g n f : Nat} {zs ds : List Int} (ho : OB W base (.slice (some ⟨g, 0, none⟩) n n) zs) (hgd : o.guard = none) (d s : Operand)
    (hop : o.op = .call { callee := .builtin .copy, args := #[d, s], argTypes := #[41, 41] }) (dp sp : Option Addr) (dLen dCap sLen sCap : Nat) (hd : a.eval d = .slice dp dLen dCap) (hs : a.eval s = .slice sp sLen sCap) (hds : BS W sp sLen sCap ds) (hle : sLen ≤ dLen) (hfit : f + sLen ≤ n) (hpos : 0 < sLen → dp = some ⟨g, f, none⟩)
    (h : ∀ w', OB w' base (.slice (some ⟨g, 0, none⟩) n n) (ovr zs f ds) → Only g W w' → K (a.put o.dst (goInt sLen)) w') : if Region.wanted o (yielded ops a.tmps) = true then Oper.wp Tryz.prog o a W K Q else E := by
  have hw : Region.wanted o (yielded ops a.tmps) = true := by simp [Region.wanted, hgd]
  rw [if_pos hw]
  obtain ⟨w', hrun, h1, h2⟩ := copy_run ho o.type dp sp dLen dCap sLen sCap hds hle hfit hpos
  unfold Oper.wp
  simp [execOp, hop, resolve, invoke, builtin, hd, hs, hrun, Result.andThen]
  exact h _ h1 h2
theorem wpList_copy_ob {ops : Array Oper} {rest : List Oper} {o : Oper} {a : Act} {W : World} {Q : Exit → Act → World → Prop} {base g n f : Nat} {zs ds : List Int} (ho : OB W base (.slice (some ⟨g, 0, none⟩) n n) zs) (hgd : o.guard = none) (d s : Operand)
    (hop : o.op = .call { callee := .builtin .copy, args := #[d, s], argTypes := #[41, 41] }) (dp sp : Option Addr) (dLen dCap sLen sCap : Nat) (hd : a.eval d = .slice dp dLen dCap) (hs : a.eval s = .slice sp sLen sCap) (hds : BS W sp sLen sCap ds) (hle : sLen ≤ dLen) (hfit : f + sLen ≤ n) (hpos : 0 < sLen → dp = some ⟨g, f, none⟩)
    (h : ∀ w', OB w' base (.slice (some ⟨g, 0, none⟩) n n) (ovr zs f ds) → Only g W w' → wpList Tryz.prog ops Q rest (a.put o.dst (goInt sLen)) w') : wpList Tryz.prog ops Q (o :: rest) a W := by
  refine wpList_plain hgd fun K hK => ?_
  obtain ⟨w', hrun, h1, h2⟩ := copy_run ho o.type dp sp dLen dCap sLen sCap hds hle hfit hpos
  unfold Oper.wp
  simp [execOp, hop, resolve, invoke, builtin, hd, hs, hrun, Result.andThen]
  exact hK _ _ (h _ h1 h2)
end Go.Proofs.YtngdgogjlpjjpaeGreat
