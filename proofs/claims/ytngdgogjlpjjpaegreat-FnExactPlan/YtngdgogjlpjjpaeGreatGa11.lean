import Derived.Test.YtngdgogjlpjjpaeGreatGa10
import Derived.Deep.RegionHeld3
import Derived.Test.YtngdgogjlpjjpaeGreatGa01
namespace Go.Proofs.YtngdgogjlpjjpaeGreat
open Go.RowKit Go.Maps
set_option linter.unusedVariables false
set_option linter.unusedSimpArgs false
set_option maxRecDepth 100000

/-- Two modules that read the same. -/
def Same (m m' : Md) : Prop := m.nm = m'.nm ∧ m.tn = m'.tn ∧ m.tz = m'.tz ∧ m.bn = m'.bn ∧ (∀ i, i < m.bn → (m'.bl.getD i zB).2.1 = (m.bl.getD i zB).2.1 ∧ (m'.bl.getD i zB).2.2.2 = (m.bl.getD i zB).2.2.2) ∧ m.dn = m'.dn ∧ m.dz = m'.dz ∧ m.bss = m'.bss ∧ m.rn = m'.rn ∧ m.rz = m'.rz ∧ m.im = m'.im ∧ m.ss = m'.ss ∧ m.en = m'.en ∧ m.es = m'.es
theorem same_copies {c c' : Nat} {m x y : Md} {W W' : World} (hb : m.bl.length = m.bn) (h : CopyOf c m x W) (h' : CopyOf c' m y W') : Same x y := by
  obtain ⟨_, _, _, _, _, _, gs, rfl, _⟩ := h
  obtain ⟨_, _, _, _, _, _, gs', rfl, _⟩ := h'
  exact ⟨rfl, rfl, rfl, rfl, fun i hi => by dsimp only at hi ⊢; rw [reb_at _ _ _ (by omega), reb_at _ _ _ (by omega)]; exact ⟨rfl, rfl⟩, rfl, rfl, rfl, rfl, rfl, rfl, rfl, rfl, rfl⟩

set_option maxHeartbeats 2000000 in
theorem eqModuleS_same (a a' : Option Addr) (n cap cap' : Nat) (ms ms' : List Md) (w : World) (h : MS w a n cap ms) (h' : MS w a' n cap' ms') (hz : ∀ i, i < n → Same (ms.getD i zMd) (ms'.getD i zMd)) :
    Calls Tryz.prog 15 #[.slice a n cap, .slice a' n cap'] w fun e w' => e = .returned (.bool true) ∧ Below w.heap.size w w' := by
  have hmx := h.2.1
  unfold maxLen at hmx
  have hne : ((n : Int) != (n : Int)) = false := by simp
  go_enter Tryz.func15, Tryz.ntmps15
  go_wp2
  go_loopw [5] (fun i wr => ∃ k : Nat, k ≤ n ∧ i = .int .i64 k ∧ Below w.heap.size w wr) (fun i _ => n - (intOf i).toNat)
  case atStart => exact ⟨0, Nat.zero_le _, rfl, Below.refl _ _⟩
  case round =>
    obtain ⟨k, hk, rfl, hB⟩ := hrel
    by_cases hlt : k < n
    · have hlt' : (k : Int) < (n : Int) := by omega
      obtain ⟨b, off, rfl, q0, q1, q2, q3, q4, q5, q6, q7⟩ := (h.below hB).at k hlt
      obtain ⟨b', off', rfl, p0, p1, p2, p3, p4, p5, p6, p7⟩ := (h'.below hB).at k hlt
      have m1 := (h.below hB).2.2.2.1 k hlt
      have m2 := (h'.below hB).2.2.2.1 k hlt
      have hs := hz k hlt
      generalize ms.getD k zMd = m at *
      generalize ms'.getD k zMd = m' at *
      obtain ⟨nm, ta, tn, tc, tz, ba, bn, bc, bl, da, dn, dc, dz, bss, ra, rn, rc, rz, ia, im, ic, ss, ea, en, ec, es⟩ := m
      obtain ⟨nm', ta', tn', tc', tz', ba', bn', bc', bl', da', dn', dc', dz', bss', ra', rn', rc', rz', ia', im', ic', ss', ea', en', ec', es'⟩ := m'
      obtain ⟨e1, e2, e3, e4, hbl, e5, e6, e7, e8, e9, e10, e11, e12, e13⟩ := hs
      dsimp only at e1 e2 e3 e4 hbl e5 e6 e7 e8 e9 e10 e11 e12 e13 q0 q1 q2 q3 q4 q5 q6 q7 p0 p1 p2 p3 p4 p5 p6 p7
      subst e1 e2 e3 e4 e5 e6 e7 e8 e9 e10 e11 e12 e13
      have HE := hide (fun w h h' => eqModule_same nm ta ta' tn tc tc' tz ba ba' bn bc bc' bl bl' da da' dn dc dc' dz bss ra ra' rn rc rc' rz ia ia' im ic ic' ss ea ea' en ec ec' es w h h' hbl)
      clear hbl
      have HM := hide (And.intro m1 m2)
      clear m1 m2
      go_wp2
      go_region_held3 (fun w' => w'.cell? ⟨b, off + k * 8, none⟩ = some (.string nm) ∧ w'.cell? ⟨b, off + k * 8 + 1, none⟩ = some (.slice ta tn tc) ∧ w'.cell? ⟨b, off + k * 8 + 2, none⟩ = some (.slice ba bn bc) ∧ w'.cell? ⟨b, off + k * 8 + 3, none⟩ = some (.slice da dn dc) ∧ w'.cell? ⟨b, off + k * 8 + 4, none⟩ = some (.int .i64 bss) ∧ w'.cell? ⟨b, off + k * 8 + 5, none⟩ = some (.slice ra rn rc) ∧ w'.cell? ⟨b, off + k * 8 + 6, none⟩ = some (.slice ia im ic) ∧ w'.cell? ⟨b, off + k * 8 + 7, none⟩ = some (.slice ea en ec) ∧ w'.cell? ⟨b', off' + k * 8, none⟩ = some (.string nm) ∧ w'.cell? ⟨b', off' + k * 8 + 1, none⟩ = some (.slice ta' tn tc') ∧ w'.cell? ⟨b', off' + k * 8 + 2, none⟩ = some (.slice ba' bn bc') ∧ w'.cell? ⟨b', off' + k * 8 + 3, none⟩ = some (.slice da' dn dc') ∧ w'.cell? ⟨b', off' + k * 8 + 4, none⟩ = some (.int .i64 bss) ∧ w'.cell? ⟨b', off' + k * 8 + 5, none⟩ = some (.slice ra' rn rc') ∧ w'.cell? ⟨b', off' + k * 8 + 6, none⟩ = some (.slice ia' im ic') ∧ w'.cell? ⟨b', off' + k * 8 + 7, none⟩ = some (.slice ea' en ec')) (go_keep)
        (first
          | (go_at_call 58; refine (HE.out _ (MT.below HM.out.1 (Below.refl _ _).drew) (MT.below HM.out.2 (Below.refl _ _).drew)).mono ?_; rintro e w1 ⟨rfl, hb1⟩; replace hb1 := undrew hb1; obtain ⟨hc1, hf1⟩ := bcell hb1; have hlb := World.block_lt_of_cell? _ _ q0; have hlb' := World.block_lt_of_cell? _ _ p0))
      clear hc1 hf1 q0 q1 q2 q3 q4 q5 q6 q7 p0 p1 p2 p3 p4 p5 p6 p7
      go_wp2
      go_roundw
      case rel => exact ⟨k + 1, by omega, by go_num, hB.trans (hb1.mono hB.size)⟩
      case measure => simp [intOf]; omega
    · go_wp2
      go_ret
      exact ⟨rfl, hB⟩

theorem moduleName_any (m : Md) (w : World) : Calls Tryz.prog 227 #[.agg m.cells] w fun e w' => e = .returned (.string m.nm) ∧ Below w.heap.size w w' := by
  unfold Md.cells
  go_enter Tryz.func227, Tryz.ntmps227
  go_wp2
  go_ret
  exact ⟨rfl, (Below.refl _ _).alloc (Nat.le_refl _) _⟩
/-- the bytes of the name of module number i -/
def mdNm (ms : List Md) (i : Nat) : List UInt8 := (ms.getD i zMd).nm.data.toList

set_option maxHeartbeats 2000000 in
theorem firstOfM_any (a : Option Addr) (n cap : Nat) (ms : List Md) (w : World) (h : MS w a n cap ms) (hn : n ≤ 1048576) :
    Calls Tryz.prog 226 #[.slice a n cap, .func (.func 227) #[] #[]] w fun e w' => e = .returned (.map (some w.heap.size)) ∧ w'.ownsMap Tryz.prog 9 (plainElem Tryz.prog 3) w.heap.size n (fd (mdNm ms) n) ∧ Below w.heap.size w w' := by
  have hmm := run_makeMap_room
  have hm1 := h.2.1
  unfold maxLen at hm1
  go_enter Tryz.func226, Tryz.ntmps226
  go_wp2
  go_loopw [16] (fun i wr => ∃ k : Nat, k ≤ n ∧ i = .int .i64 k ∧ wr.ownsMap Tryz.prog 9 (plainElem Tryz.prog 3) w.heap.size k (fd (mdNm ms) k) ∧ Below w.heap.size w wr) (fun i _ => n - (intOf i).toNat)
  case atStart => exact ⟨0, Nat.zero_le _, rfl, World.ownsMap_made _ _ _ _, (Below.refl _ _).alloc (Nat.le_refl _) _⟩
  case round =>
    obtain ⟨k, hk, rfl, hown, hB⟩ := hrel
    by_cases hlt : k < n
    · have hlt' : (k : Int) < (n : Int) := by omega
      obtain ⟨bb, off, rfl, q0, q1, q2, q3, q4, q5, q6, q7⟩ := (h.below hB).at k hlt
      have hsz := (h.2.2.2.1 k hlt).n
      have HX := hide (fd_succ (mdNm ms) k)
      have hkl : mdNm ms k = (ms.getD k zMd).nm.data.toList := rfl
      rw [hkl] at HX
      clear hkl
      generalize ms.getD k zMd = m at *
      obtain ⟨nm, ta, tn, tc, tz, ba, bn, bc, bl, da, dn, dc, dz, bss, ra, rn, rc, rz, ia, im, ic, ss, ea, en, ec, es⟩ := m
      dsimp only at q0 q1 q2 q3 q4 q5 q6 q7 hsz HX
      have HKEY := hide (show keyOf Tryz.prog 9 (.string nm) = some (.string nm.data.toList) from Go.WideMaps.keyOf_string_mk Tryz.underlying9 hsz)
      have HMN := hide (fun w => moduleName_any ⟨nm, ta, tn, tc, tz, ba, bn, bc, bl, da, dn, dc, dz, bss, ra, rn, rc, rz, ia, im, ic, ss, ea, en, ec, es⟩ w)
      have hA : Below wr.heap.size wr (wr.alloc (.cells #[.string nm, .slice ta tn tc, .slice ba bn bc, .slice da dn dc, .int .i64 bss, .slice ra rn rc, .slice ia im ic, .slice ea en ec] 104)) := (Below.refl _ _).alloc (Nat.le_refl _) _
      go_wp2_with fail
      refine (HMN.out _).mono ?_
      rintro e w1 ⟨rfl, hb1⟩
      have hb1' := hA.trans (hb1.mono hA.size)
      have hB1 := hB.trans (hb1'.mono hB.size)
      have hown1 : w1.ownsMap Tryz.prog 9 (plainElem Tryz.prog 3) w.heap.size k (fd (mdNm ms) k) := by
        obtain ⟨es', cl, hh, r⟩ := hown
        refine ⟨es', cl, ?_, r⟩
        have hl : w.heap.size < wr.heap.size := by
          rcases Nat.lt_or_ge w.heap.size wr.heap.size with h' | h'
          · exact h'
          · rw [Array.getElem?_eq_none h'] at hh; cases hh
        rw [hb1'.block _ hl]
        exact hh
      clear hown hA hb1 hb1' q0 q1 q2 q3 q4 q5 q6 q7
      cases hh : has (fd (mdNm ms) k) (.string nm.data.toList)
      · rw [hh] at HX
        go_wp2_with (first
          | (at_lookup; refine wpList_lookup_own_ok_int _ rfl _ _ 262 rfl 9 3 .i64 lawS Tryz.underlying262 Tryz.underlying3 (zeroI _) w.heap.size k _ rfl hown1 _ _ rfl HKEY.out ?_; intro c hat hwc; clear hat; rw [hh])
          | (at_mapUpdate; refine wpList_mapUpdate_own _ rfl _ _ _ 262 rfl 9 3 lawS Tryz.underlying262 _ w.heap.size k _ rfl hown1 (by unfold maxLen; omega) _ _ _ rfl rfl HKEY.out _ [] (plainElem_int Tryz.underlying3 (WalkArith.wf_i64 (by omega))) ?_; intro w2 hown2 hgr2))
        have HO := hide hown2
        have HB2 := hide (hB1.grown hgr2 hB1.size (fun j hj => by cases hj; exact Nat.le_refl _))
        clear hown2 hgr2 hown1
        go_wp2
        go_roundw
        case rel => exact ⟨k + 1, by omega, by go_num, by have := HO.out; rw [HX.out, if_neg (by simp)]; exact this, HB2.out⟩
        case measure => simp [intOf]; omega
      · rw [hh] at HX
        go_wp2_with (first
          | (at_lookup; refine wpList_lookup_own_ok_int _ rfl _ _ 262 rfl 9 3 .i64 lawS Tryz.underlying262 Tryz.underlying3 (zeroI _) w.heap.size k _ rfl hown1 _ _ rfl HKEY.out ?_; intro c hat hwc; clear hat; rw [hh]))
        have HO := hide hown1
        clear hown1
        go_wp2
        go_roundw
        case rel => exact ⟨k + 1, by omega, by go_num, by have := HO.out; rw [HX.out, if_pos trivial]; exact this.mono (by omega), hB1⟩
        case measure => simp [intOf]; omega
    · have e : Hid (k = n) := by show k = n; omega
      go_wp2
      go_ret
      exact ⟨rfl, by rw [e.out] at hown; exact hown, hB⟩
end Go.Proofs.YtngdgogjlpjjpaeGreat

namespace Go.Proofs.YtngdgogjlpjjpaeGreat
open Go.RowKit Go.Maps
set_option linter.unusedVariables false
set_option linter.unusedSimpArgs false
set_option maxRecDepth 100000

/-- WHETHER THE TABLES FIT. -/
def tbf (n : Nat) (ms : List Md) : Bool := decide (n ≤ 4) && (List.range n).all fun i => decide ((ms.getD i zMd).en ≤ 16)
set_option maxHeartbeats 1000000 in
theorem tablesFit_any (a : Option Addr) (n cap : Nat) (ms : List Md) (w : World) (h : MS w a n cap ms) :
    Calls Tryz.prog 270 #[.slice a n cap] w fun e w' => e = .returned (.bool (tbf n ms)) ∧ Below w.heap.size w w' := by
  have hm1 := h.2.1
  unfold maxLen at hm1
  obtain ⟨r, hr⟩ : ∃ r, r = tbf n ms := ⟨_, rfl⟩
  rw [← hr]
  unfold tbf at hr
  by_cases c1 : 4 < n
  · have HR := hide (show r = false by rw [hr, decide_eq_false (by omega)]; rfl)
    clear hr
    have c1' : (4 : Int) < (n : Int) := by omega
    go_enter Tryz.func270, Tryz.ntmps270
    go_wp2
    go_ret
    exact ⟨ret_bool HR.out.symm, Below.refl _ _⟩
  · have c1' : ¬ (4 : Int) < (n : Int) := by omega
    have HR := hide (show r = (List.range n).all (fun i => decide ((ms.getD i zMd).en ≤ 16)) by rw [hr, decide_eq_true (by omega)]; rfl)
    clear hr
    go_enter Tryz.func270, Tryz.ntmps270
    go_wp2_with fail
    go_loopw [10] (fun i wr => ∃ k : Nat, k ≤ n ∧ i = .int .i64 k ∧ Hid (∀ j, j < k → decide ((ms.getD j zMd).en ≤ 16) = true) ∧ Below w.heap.size w wr) (fun i _ => n - (intOf i).toNat)
    case atStart => exact ⟨0, Nat.zero_le _, rfl, hide (fun j hj => by omega), Below.refl _ _⟩
    case round =>
      obtain ⟨k, hk, rfl, HJ, hB⟩ := hrel
      by_cases hlt : k < n
      · have hlt' : (k : Int) < (n : Int) := by omega
        obtain ⟨bb, off, rfl, q0, q1, q2, q3, q4, q5, q6, q7⟩ := (h.below hB).at k hlt
        have HZ := hide (rng_bad (fun i => decide ((ms.getD i zMd).en ≤ 16)) n k hlt)
        have HG := hide (show decide ((ms.getD k zMd).en ≤ 16) = true → ∀ j, j < k + 1 → decide ((ms.getD j zMd).en ≤ 16) = true from fun h j hj => by
          by_cases e : j = k
          · subst e; exact h
          · exact HJ.out j (by omega))
        generalize ms.getD k zMd = m at *
        obtain ⟨nm, ta, tn, tc, tz, ba, bn, bc, bl, da, dn, dc, dz, bss, ra, rn, rc, rz, ia, im, ic, ss, ea, en, ec, es⟩ := m
        dsimp only at q0 q1 q2 q3 q4 q5 q6 q7 HZ HG
        have HB1 := hide (hB.alloc hB.size (.cells #[.string nm, .slice ta tn tc, .slice ba bn bc, .slice da dn dc, .int .i64 bss, .slice ra rn rc, .slice ia im ic, .slice ea en ec] 104))
        by_cases d : 16 < en
        · have d' : (16 : Int) < (en : Int) := by omega
          go_wp2
          go_ret
          exact ⟨ret_bool (by rw [HR.out]; exact (HZ.out (decide_eq_false (by omega))).symm), HB1.out⟩
        · have d' : ¬ (16 : Int) < (en : Int) := by omega
          go_wp2
          go_roundw
          case rel => exact ⟨k + 1, by omega, by go_num, hide (HG.out (decide_eq_true (by omega))), HB1.out⟩
          case measure => simp [intOf]; omega
      · have HE := hide (rng_good (fun i => decide ((ms.getD i zMd).en ≤ 16)) n (fun j hj => HJ.out j (by omega)))
        go_wp2
        go_ret
        exact ⟨ret_bool (by rw [HR.out]; exact HE.out.symm), hB⟩
/-- Which module and which of its exports a name leads to. -/
def rsT (n : Nat) (ms : List Md) (s : ByteArray) : Option (Nat × Nat) :=
  if full s = true ∧ tbf n ms = true then (fst? (mdNm ms) (cutA s).data.toList n).bind fun i => (fst? (exNm (ms.getD i zMd).es) (cutB s).data.toList (ms.getD i zMd).en).map fun k => (i, k) else none
/-- WHAT Resolve GIVES. -/
def rsv (n : Nat) (ms : List Md) (s : ByteArray) : Value :=
  match rsT n ms s with
  | some (i, k) => .tuple #[.agg #[.int .i64 i, .int .i64 ((ms.getD i zMd).es.getD k zE).2.1, .int .i64 ((ms.getD i zMd).es.getD k zE).2.2], .bool true]
  | none => .tuple #[.agg #[.int .i64 0, .int .i64 0, .int .i64 0], .bool false]
end Go.Proofs.YtngdgogjlpjjpaeGreat

namespace Go.Proofs.YtngdgogjlpjjpaeGreat
open Go.RowKit Go.Maps
set_option linter.unusedVariables false
set_option linter.unusedSimpArgs false
set_option maxRecDepth 100000

theorem rsv_none {n : Nat} {ms : List Md} {s : ByteArray} (h : rsT n ms s = none) : rsv n ms s = .tuple #[.agg #[.int .i64 0, .int .i64 0, .int .i64 0], .bool false] := by unfold rsv; rw [h]
theorem rsv_some {n : Nat} {ms : List Md} {s : ByteArray} {i k : Nat} (h : rsT n ms s = some (i, k)) : rsv n ms s = .tuple #[.agg #[.int .i64 i, .int .i64 ((ms.getD i zMd).es.getD k zE).2.1, .int .i64 ((ms.getD i zMd).es.getD k zE).2.2], .bool true] := by unfold rsv; rw [h]
theorem fst_lt (f : Nat → List UInt8) (s : List UInt8) (i : Nat) : ∀ k, fst? f s k = some i → i < k
  | 0, h => by cases h
  | k + 1, h => by
    rw [fst_succ] at h
    cases hf : fst? f s k with
    | some j => rw [hf] at h; simp at h; subst h; have := fst_lt f s j k hf; omega
    | none => rw [hf] at h; simp at h; omega
theorem lit_int {H : Type} {a b : Int} (h : (DataW.lit (.int .i64 a) : DataW H) = .lit (.int .i64 b)) : b = a := by
  injection h with h
  injection h with _ h
  exact h.symm

set_option maxHeartbeats 4000000 in
theorem iResolve_any (a : Option Addr) (n cap : Nat) (ms : List Md) (s : ByteArray) (w : World) (h : MS w a n cap ms) (hn : n ≤ 1048576) (hs : s.size ≤ 1048576) (hE : ∀ i, i < n → ES w (ms.getD i zMd).ea (ms.getD i zMd).en (ms.getD i zMd).ec (ms.getD i zMd).es ∧ (ms.getD i zMd).en ≤ 1048576) :
    Calls Tryz.prog 228 #[.slice a n cap, .string s] w fun e w' => e = .returned (rsv n ms s) ∧ Below w.heap.size w w' := by
  obtain ⟨W, hW⟩ : ∃ W, W = w.alloc (.cells #[.int .i64 0, .int .i64 0, .int .i64 0] 71) := ⟨_, rfl⟩
  have hB0 : Below w.heap.size w W := by rw [hW]; exact (Below.refl _ _).alloc (Nat.le_refl _) _
  have kb : Blk W w.heap.size #[.int .i64 0, .int .i64 0, .int .i64 0] 71 := by rw [hW]; exact Blk.new _ _ _
  have HW := hide hW
  clear hW
  have HC := hide (fun w => cutImport_any s w hs)
  obtain ⟨V, hV⟩ : ∃ V, V = rsv n ms s := ⟨_, rfl⟩
  rw [← hV]
  have HV := hide hV
  clear hV
  have HTF := hide (fun w h => tablesFit_any a n cap ms w h)
  have fin : ∀ (X : World) (x y z : Int), Below w.heap.size w X → Blk X w.heap.size #[.int .i64 0, .int .i64 0, .int .i64 0] 71 →
      Blk (((X.setCell ⟨w.heap.size, 0, none⟩ (.int .i64 x)).setCell ⟨w.heap.size, 1, none⟩ (.int .i64 y)).setCell ⟨w.heap.size, 2, none⟩ (.int .i64 z)) w.heap.size #[.int .i64 x, .int .i64 y, .int .i64 z] 71 ∧ Below w.heap.size w (((X.setCell ⟨w.heap.size, 0, none⟩ (.int .i64 x)).setCell ⟨w.heap.size, 1, none⟩ (.int .i64 y)).setCell ⟨w.heap.size, 2, none⟩ (.int .i64 z)) := fun X x y z hB k => by
    refine ⟨?_, ((hB.setCell (p := ⟨w.heap.size, 0, none⟩) (Nat.le_refl _) _).setCell (p := ⟨w.heap.size, 1, none⟩) (Nat.le_refl _) _).setCell (p := ⟨w.heap.size, 2, none⟩) (Nat.le_refl _) _⟩
    have := ((k.set 0 (.int .i64 x)).set 1 (.int .i64 y)).set 2 (.int .i64 z)
    simpa using this
  have FIN := hide fin
  clear fin
  cases hf : full s
  · have hr := hide (rsv_none (n := n) (ms := ms) (s := s) (by unfold rsT; rw [hf]; simp))
    unfold cutV at HC
    rw [hf] at HC
    go_enter Tryz.func228, Tryz.ntmps228
    go_wp2_with (rw [← HW.out])
    refine (HC.out _).mono ?_
    rintro e w1 ⟨rfl, hb1⟩
    have k1 := kb.below hb1
    have hB1 := hB0.trans (hb1.mono hB0.size)
    obtain ⟨k2, hB2⟩ := FIN.out w1 0 0 0 hB1 k1
    clear hb1 kb hB0
    obtain ⟨q1, q2, q3, q4⟩ := k1.three
    obtain ⟨s1, s2, s3, s4⟩ := k2.three
    clear k1 k2
    have HX := hide hB2
    clear hB2 hB1
    go_wp2
    exact bodyPost_ret (v := .tuple #[.agg #[.int .i64 0, .int .i64 0, .int .i64 0], .bool false]) (by simp [results, Tryz.results228, go_sem, s1, s2, s3]) rfl ⟨by rw [HV.out, hr.out], HX.out⟩
  · unfold cutV at HC
    rw [hf] at HC
    go_enter Tryz.func228, Tryz.ntmps228
    go_wp2_with (rw [← HW.out])
    refine (HC.out _).mono ?_
    rintro e w1 ⟨rfl, hb1⟩
    have k1 := kb.below hb1
    have hB1 := hB0.trans (hb1.mono hB0.size)
    clear hb1 kb hB0
    have h1 := h.below hB1
    generalize htb : tbf n ms = tb at *
    cases tb
    · have hr := hide (rsv_none (n := n) (ms := ms) (s := s) (by unfold rsT; rw [htb]; simp))
      clear htb
      go_wp2_with fail
      refine (HTF.out _ h1).mono ?_
      rintro e w2 ⟨rfl, hb2⟩
      have k2 := k1.below hb2
      have hB2 := hB1.trans (hb2.mono hB1.size)
      obtain ⟨k3, hB3⟩ := FIN.out w2 0 0 0 hB2 k2
      clear hb2 k1 hB1 h1
      obtain ⟨q1, q2, q3, q4⟩ := k2.three
      obtain ⟨s1, s2, s3, s4⟩ := k3.three
      have HX := hide hB3
      clear hB3 hB2 k2 k3
      go_wp2
      exact bodyPost_ret (v := .tuple #[.agg #[.int .i64 0, .int .i64 0, .int .i64 0], .bool false]) (by simp [results, Tryz.results228, go_sem, s1, s2, s3]) rfl ⟨by rw [HV.out, hr.out], HX.out⟩
    · have HT := hide (show rsT n ms s = (fst? (mdNm ms) (cutA s).data.toList n).bind fun i => (fst? (exNm (ms.getD i zMd).es) (cutB s).data.toList (ms.getD i zMd).en).map fun k => (i, k) by unfold rsT; rw [hf, htb]; simp)
      clear htb
      have HKA := hide (show keyOf Tryz.prog 9 (.string (cutA s)) = some (.string (cutA s).data.toList) from Go.WideMaps.keyOf_string_mk Tryz.underlying9 (by have := cutA_size s hs; unfold maxLen; omega))
      have HKB := hide (show keyOf Tryz.prog 9 (.string (cutB s)) = some (.string (cutB s).data.toList) from Go.WideMaps.keyOf_string_mk Tryz.underlying9 (by have := cutB_size s hs; unfold maxLen; omega))
      have HFM := hide (fun w h => firstOfM_any a n cap ms w h hn)
      have HHA := hide (fst_has (mdNm ms) (cutA s).data.toList n)
      have HAA := hide (fd_at (mdNm ms) (cutA s).data.toList (.lit (.int .i64 0)) n)
      have HIL := hide (fun i => fst_lt (mdNm ms) (cutA s).data.toList i n)
      go_wp2_with fail
      refine (HTF.out _ h1).mono ?_
      rintro e w2 ⟨rfl, hb2⟩
      have k2 := k1.below hb2
      have hB2 := hB1.trans (hb2.mono hB1.size)
      have h2 := h.below hB2
      clear hb2 k1 hB1 h1
      go_wp2_with fail
      refine (HFM.out _ h2).mono ?_
      rintro e w3 ⟨rfl, hown, hb3⟩
      have k3 := k2.below hb3
      have hB3 := hB2.trans (hb3.mono hB2.size)
      have h3 := h.below hB3
      clear hb3 k2 hB2 h2
      cases hi : fst? (mdNm ms) (cutA s).data.toList n with
      | none =>
        have hr := hide (rsv_none (n := n) (ms := ms) (s := s) (by rw [HT.out, hi]; rfl))
        have hh : has (fd (mdNm ms) n) (.string (cutA s).data.toList) = false := by rw [← HHA.out, hi]; rfl
        obtain ⟨k4, hB4⟩ := FIN.out w3 0 0 0 hB3 k3
        obtain ⟨q1, q2, q3, q4⟩ := k3.three
        obtain ⟨s1, s2, s3, s4⟩ := k4.three
        have HX := hide hB4
        clear hB4 hB3 k3 k4 h3 hi
        go_wp2_with (at_lookup; refine wpList_lookup_own_ok_int _ rfl _ _ 262 rfl 9 3 .i64 lawS Tryz.underlying262 Tryz.underlying3 (zeroI _) w2.heap.size n _ rfl hown _ _ rfl HKA.out ?_; intro c hat hwc; clear hat; rw [hh])
        exact bodyPost_ret (v := .tuple #[.agg #[.int .i64 0, .int .i64 0, .int .i64 0], .bool false]) (by simp [results, Tryz.results228, go_sem, s1, s2, s3]) rfl ⟨by rw [HV.out, hr.out], HX.out⟩
      | some i =>
        have hin := HIL.out i hi
        have hin' : (i : Int) < (n : Int) := by omega
        have hh : has (fd (mdNm ms) n) (.string (cutA s).data.toList) = true := by rw [← HHA.out, hi]; rfl
        have HC2 := hide (fun (c : Int) (hat : (fd (mdNm ms) n).atKey (.string (cutA s).data.toList) (.lit (.int .i64 0)) = .lit (.int .i64 c)) => show c = (i : Int) from by rw [HAA.out, hi] at hat; exact lit_int hat)
        have HT2 := hide (show rsT n ms s = (fst? (exNm (ms.getD i zMd).es) (cutB s).data.toList (ms.getD i zMd).en).map (fun k => (i, k)) by rw [HT.out, hi]; rfl)
        have HRS := hide (fun k (h : rsT n ms s = some (i, k)) => rsv_some h)
        obtain ⟨bb, off, rfl, y0, y1, y2, y3, y4, y5, y6, y7⟩ := h3.at i hin
        obtain ⟨e1, e2⟩ := hE i hin
        have e3 := e1.below hB3
        clear e1 hi HT HHA HAA HIL h3
        generalize ms.getD i zMd = m at *
        obtain ⟨nm, ta, tn, tc, tz, ba, bn, bc, bl, da, dn, dc, dz, bss, ra, rn, rc, rz, ia, im, ic, ss, ea, en, ec, es⟩ := m
        dsimp only at y0 y1 y2 y3 y4 y5 y6 y7 e2 e3 HT2 HRS
        have HFE := hide (fun w h => firstOfE_any ea en ec es w h e2)
        go_wp2_with (at_lookup; refine wpList_lookup_own_ok_int _ rfl _ _ 262 rfl 9 3 .i64 lawS Tryz.underlying262 Tryz.underlying3 (zeroI _) w2.heap.size n _ rfl hown _ _ rfl HKA.out ?_; intro c hat hwc; have hc := HC2.out c hat; clear hat hwc; subst hc; rw [hh])
        refine (HFE.out _ e3).mono ?_
        rintro e w4 ⟨rfl, hown4, hb4⟩
        have k4 := k3.below hb4
        have hB4 := hB3.trans (hb4.mono hB3.size)
        have e4 := e3.below hb4
        have y7' : w4.cell? ⟨bb, off + i * 8 + 7, none⟩ = some (.slice ea en ec) := (hb4.cell (World.block_lt_of_cell? w3 _ y7)).trans y7
        clear hb4 hB3 k3 e3 hown y0 y1 y2 y3 y4 y5 y6 y7 HC2 hh
        cases hk : fst? (exNm es) (cutB s).data.toList en with
        | none =>
          have hr := hide (rsv_none (n := n) (ms := ms) (s := s) (by rw [HT2.out, hk]; rfl))
          have hh : has (fd (exNm es) en) (.string (cutB s).data.toList) = false := by rw [← fst_has, hk]; rfl
          obtain ⟨k5, hB5⟩ := FIN.out w4 0 0 0 hB4 k4
          obtain ⟨q1, q2, q3, q4⟩ := k4.three
          obtain ⟨s1, s2, s3, s4⟩ := k5.three
          have HX := hide hB5
          clear hB4 hB5 k4 k5 hk
          go_wp2_with (at_lookup; refine wpList_lookup_own_ok_int _ rfl _ _ 262 rfl 9 3 .i64 lawS Tryz.underlying262 Tryz.underlying3 (zeroI _) w3.heap.size en _ rfl hown4 _ _ rfl HKB.out ?_; intro c hat hwc; clear hat; rw [hh])
          exact bodyPost_ret (v := .tuple #[.agg #[.int .i64 0, .int .i64 0, .int .i64 0], .bool false]) (by simp [results, Tryz.results228, go_sem, s1, s2, s3]) rfl ⟨by rw [HV.out, hr.out], HX.out⟩
        | some k =>
          have hkn := fst_lt (exNm es) (cutB s).data.toList k en hk
          have hkn' : (k : Int) < (en : Int) := by omega
          have hr := hide (HRS.out k (by rw [HT2.out, hk]; rfl))
          have hh : has (fd (exNm es) en) (.string (cutB s).data.toList) = true := by rw [← fst_has, hk]; rfl
          have HC2 := hide (fun (c : Int) (hat : (fd (exNm es) en).atKey (.string (cutB s).data.toList) (.lit (.int .i64 0)) = .lit (.int .i64 c)) => show c = (k : Int) from by rw [fd_at, hk] at hat; exact lit_int hat)
          obtain ⟨eb, eo, rfl⟩ := e4.addr (by omega)
          obtain ⟨x0, x1, x2⟩ := e4.at k hkn
          generalize es.getD k zE = E at *
          obtain ⟨xn, xb, xa⟩ := E
          dsimp only at x0 x1 x2 hr
          obtain ⟨k5', hB5'⟩ := FIN.out w4 i xb xa hB4 k4
          have k5 := k5'.alloc (.cells #[.string xn, .int .i64 xb, .int .i64 xa] 207)
          have hB5 := hB5'.alloc hB5'.size (.cells #[.string xn, .int .i64 xb, .int .i64 xa] 207)
          clear k5' hB5'
          have kl := k4.lt
          obtain ⟨q1, q2, q3, q4⟩ := k4.three
          obtain ⟨s1, s2, s3, s4⟩ := k5.three
          have HX := hide hB5
          clear hB4 hB5 k4 k5 hk e4
          go_wp2_with (at_lookup; refine wpList_lookup_own_ok_int _ rfl _ _ 262 rfl 9 3 .i64 lawS Tryz.underlying262 Tryz.underlying3 (zeroI _) w3.heap.size en _ rfl hown4 _ _ rfl HKB.out ?_; intro c hat hwc; have hc := HC2.out c hat; clear hat hwc; subst hc; rw [hh])
          exact bodyPost_ret (v := .tuple #[.agg #[.int .i64 i, .int .i64 xb, .int .i64 xa], .bool true]) (by simp [results, Tryz.results228, go_sem, s1, s2, s3]) rfl ⟨by rw [HV.out, hr.out], HX.out⟩
end Go.Proofs.YtngdgogjlpjjpaeGreat
