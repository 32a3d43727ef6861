import Derived.Test.YtngdgogjlpjjpacK45
import Derived.Deep.RegionHeld3
namespace Go.Proofs.Ytngdgogjlpjjpac
open Go.RowKit Go.Maps
set_option linter.unusedVariables false
set_option linter.unusedSimpArgs false
set_option maxRecDepth 100000

/-- Two modules that read the same. -/
def Same (m m' : Md) : Prop := m.nm = m'.nm ∧ m.tn = m'.tn ∧ m.tz = m'.tz ∧ m.bn = m'.bn ∧ (∀ i, i < m.bn → (m'.bl.getD i zB).2.1 = (m.bl.getD i zB).2.1 ∧ (m'.bl.getD i zB).2.2.2 = (m.bl.getD i zB).2.2.2) ∧ m.dn = m'.dn ∧ m.dz = m'.dz ∧ m.bss = m'.bss ∧ m.rn = m'.rn ∧ m.rz = m'.rz ∧ m.im = m'.im ∧ m.ss = m'.ss ∧ m.en = m'.en ∧ m.es = m'.es
theorem same_copies {c c' : Nat} {m x y : Md} {W W' : World} (hb : m.bl.length = m.bn) (h : CopyOf c m x W) (h' : CopyOf c' m y W') : Same x y := by
  obtain ⟨_, _, _, _, _, _, gs, rfl, _⟩ := h
  obtain ⟨_, _, _, _, _, _, gs', rfl, _⟩ := h'
  exact ⟨rfl, rfl, rfl, rfl, fun i hi => by dsimp only at hi ⊢; rw [reb_at _ _ _ (by omega), reb_at _ _ _ (by omega)]; exact ⟨rfl, rfl⟩, rfl, rfl, rfl, rfl, rfl, rfl, rfl, rfl, rfl⟩

set_option maxHeartbeats 2000000 in
theorem eqModuleS_same (a a' : Option Addr) (n cap cap' : Nat) (ms ms' : List Md) (w : World) (h : MS w a n cap ms) (h' : MS w a' n cap' ms') (hz : ∀ i, i < n → Same (ms.getD i zMd) (ms'.getD i zMd)) :
    Calls Try.prog 22 #[.slice a n cap, .slice a' n cap'] w fun e w' => e = .returned (.bool true) ∧ Below w.heap.size w w' := by
  have hmx := h.2.1
  unfold maxLen at hmx
  have hne : ((n : Int) != (n : Int)) = false := by simp
  go_enter Try.func22, Try.ntmps22
  go_wp2
  go_loopw [5] (fun i wr => ∃ k : Nat, k ≤ n ∧ i = .int .i64 k ∧ Below w.heap.size w wr) (fun i _ => n - (intOf i).toNat)
  case atStart => exact ⟨0, Nat.zero_le _, rfl, Below.refl _ _⟩
  case round =>
    obtain ⟨k, hk, rfl, hB⟩ := hrel
    by_cases hlt : k < n
    · have hlt' : (k : Int) < (n : Int) := by omega
      obtain ⟨b, off, rfl, q0, q1, q2, q3, q4, q5, q6, q7⟩ := (h.below hB).at k hlt
      obtain ⟨b', off', rfl, p0, p1, p2, p3, p4, p5, p6, p7⟩ := (h'.below hB).at k hlt
      have m1 := (h.below hB).2.2.2.1 k hlt
      have m2 := (h'.below hB).2.2.2.1 k hlt
      have hs := hz k hlt
      generalize ms.getD k zMd = m at *
      generalize ms'.getD k zMd = m' at *
      obtain ⟨nm, ta, tn, tc, tz, ba, bn, bc, bl, da, dn, dc, dz, bss, ra, rn, rc, rz, ia, im, ic, ss, ea, en, ec, es⟩ := m
      obtain ⟨nm', ta', tn', tc', tz', ba', bn', bc', bl', da', dn', dc', dz', bss', ra', rn', rc', rz', ia', im', ic', ss', ea', en', ec', es'⟩ := m'
      obtain ⟨e1, e2, e3, e4, hbl, e5, e6, e7, e8, e9, e10, e11, e12, e13⟩ := hs
      dsimp only at e1 e2 e3 e4 hbl e5 e6 e7 e8 e9 e10 e11 e12 e13 q0 q1 q2 q3 q4 q5 q6 q7 p0 p1 p2 p3 p4 p5 p6 p7
      subst e1 e2 e3 e4 e5 e6 e7 e8 e9 e10 e11 e12 e13
      have HE := hide (fun w h h' => eqModule_same nm ta ta' tn tc tc' tz ba ba' bn bc bc' bl bl' da da' dn dc dc' dz bss ra ra' rn rc rc' rz ia ia' im ic ic' ss ea ea' en ec ec' es w h h' hbl)
      clear hbl
      have HM := hide (And.intro m1 m2)
      clear m1 m2
      go_wp2
      go_region_held3 (fun w' => w'.cell? ⟨b, off + k * 8, none⟩ = some (.string nm) ∧ w'.cell? ⟨b, off + k * 8 + 1, none⟩ = some (.slice ta tn tc) ∧ w'.cell? ⟨b, off + k * 8 + 2, none⟩ = some (.slice ba bn bc) ∧ w'.cell? ⟨b, off + k * 8 + 3, none⟩ = some (.slice da dn dc) ∧ w'.cell? ⟨b, off + k * 8 + 4, none⟩ = some (.int .i64 bss) ∧ w'.cell? ⟨b, off + k * 8 + 5, none⟩ = some (.slice ra rn rc) ∧ w'.cell? ⟨b, off + k * 8 + 6, none⟩ = some (.slice ia im ic) ∧ w'.cell? ⟨b, off + k * 8 + 7, none⟩ = some (.slice ea en ec) ∧ w'.cell? ⟨b', off' + k * 8, none⟩ = some (.string nm) ∧ w'.cell? ⟨b', off' + k * 8 + 1, none⟩ = some (.slice ta' tn tc') ∧ w'.cell? ⟨b', off' + k * 8 + 2, none⟩ = some (.slice ba' bn bc') ∧ w'.cell? ⟨b', off' + k * 8 + 3, none⟩ = some (.slice da' dn dc') ∧ w'.cell? ⟨b', off' + k * 8 + 4, none⟩ = some (.int .i64 bss) ∧ w'.cell? ⟨b', off' + k * 8 + 5, none⟩ = some (.slice ra' rn rc') ∧ w'.cell? ⟨b', off' + k * 8 + 6, none⟩ = some (.slice ia' im ic') ∧ w'.cell? ⟨b', off' + k * 8 + 7, none⟩ = some (.slice ea' en ec')) (go_keep)
        (first
          | (go_at_call 27; refine (HE.out _ (MT.below HM.out.1 (Below.refl _ _).drew) (MT.below HM.out.2 (Below.refl _ _).drew)).mono ?_; rintro e w1 ⟨rfl, hb1⟩; replace hb1 := undrew hb1; obtain ⟨hc1, hf1⟩ := bcell hb1; have hlb := World.block_lt_of_cell? _ _ q0; have hlb' := World.block_lt_of_cell? _ _ p0))
      clear hc1 hf1 q0 q1 q2 q3 q4 q5 q6 q7 p0 p1 p2 p3 p4 p5 p6 p7
      go_wp2
      go_roundw
      case rel => exact ⟨k + 1, by omega, by go_num, hB.trans (hb1.mono hB.size)⟩
      case measure => simp [intOf]; omega
    · go_wp2
      go_ret
      exact ⟨rfl, hB⟩

theorem moduleName_any (m : Md) (w : World) : Calls Try.prog 60 #[.agg m.cells] w fun e w' => e = .returned (.string m.nm) ∧ Below w.heap.size w w' := by
  unfold Md.cells
  go_enter Try.func60, Try.ntmps60
  go_wp2
  go_ret
  exact ⟨rfl, (Below.refl _ _).alloc (Nat.le_refl _) _⟩
/-- the bytes of the name of module number i -/
def mdNm (ms : List Md) (i : Nat) : List UInt8 := (ms.getD i zMd).nm.data.toList

set_option maxHeartbeats 2000000 in
theorem firstOfM_any (a : Option Addr) (n cap : Nat) (ms : List Md) (w : World) (h : MS w a n cap ms) (hn : n ≤ 1048576) :
    Calls Try.prog 59 #[.slice a n cap, .func (.func 60) #[] #[]] w fun e w' => e = .returned (.map (some w.heap.size)) ∧ w'.ownsMap Try.prog 9 (plainElem Try.prog 3) w.heap.size n (fd (mdNm ms) n) ∧ Below w.heap.size w w' := by
  have hmm := run_makeMap_room
  have hm1 := h.2.1
  unfold maxLen at hm1
  go_enter Try.func59, Try.ntmps59
  go_wp2
  go_loopw [16] (fun i wr => ∃ k : Nat, k ≤ n ∧ i = .int .i64 k ∧ wr.ownsMap Try.prog 9 (plainElem Try.prog 3) w.heap.size k (fd (mdNm ms) k) ∧ Below w.heap.size w wr) (fun i _ => n - (intOf i).toNat)
  case atStart => exact ⟨0, Nat.zero_le _, rfl, World.ownsMap_made _ _ _ _, (Below.refl _ _).alloc (Nat.le_refl _) _⟩
  case round =>
    obtain ⟨k, hk, rfl, hown, hB⟩ := hrel
    by_cases hlt : k < n
    · have hlt' : (k : Int) < (n : Int) := by omega
      obtain ⟨bb, off, rfl, q0, q1, q2, q3, q4, q5, q6, q7⟩ := (h.below hB).at k hlt
      have hsz := (h.2.2.2.1 k hlt).n
      have HX := hide (fd_succ (mdNm ms) k)
      have hkl : mdNm ms k = (ms.getD k zMd).nm.data.toList := rfl
      rw [hkl] at HX
      clear hkl
      generalize ms.getD k zMd = m at *
      obtain ⟨nm, ta, tn, tc, tz, ba, bn, bc, bl, da, dn, dc, dz, bss, ra, rn, rc, rz, ia, im, ic, ss, ea, en, ec, es⟩ := m
      dsimp only at q0 q1 q2 q3 q4 q5 q6 q7 hsz HX
      have HKEY := hide (show keyOf Try.prog 9 (.string nm) = some (.string nm.data.toList) from Go.WideMaps.keyOf_string_mk Try.underlying9 hsz)
      have HMN := hide (fun w => moduleName_any ⟨nm, ta, tn, tc, tz, ba, bn, bc, bl, da, dn, dc, dz, bss, ra, rn, rc, rz, ia, im, ic, ss, ea, en, ec, es⟩ w)
      have hA : Below wr.heap.size wr (wr.alloc (.cells #[.string nm, .slice ta tn tc, .slice ba bn bc, .slice da dn dc, .int .i64 bss, .slice ra rn rc, .slice ia im ic, .slice ea en ec] 56)) := (Below.refl _ _).alloc (Nat.le_refl _) _
      go_wp2_with fail
      refine (HMN.out _).mono ?_
      rintro e w1 ⟨rfl, hb1⟩
      have hb1' := hA.trans (hb1.mono hA.size)
      have hB1 := hB.trans (hb1'.mono hB.size)
      have hown1 : w1.ownsMap Try.prog 9 (plainElem Try.prog 3) w.heap.size k (fd (mdNm ms) k) := by
        obtain ⟨es', cl, hh, r⟩ := hown
        refine ⟨es', cl, ?_, r⟩
        have hl : w.heap.size < wr.heap.size := by
          rcases Nat.lt_or_ge w.heap.size wr.heap.size with h' | h'
          · exact h'
          · rw [Array.getElem?_eq_none h'] at hh; cases hh
        rw [hb1'.block _ hl]
        exact hh
      clear hown hA hb1 hb1' q0 q1 q2 q3 q4 q5 q6 q7
      cases hh : has (fd (mdNm ms) k) (.string nm.data.toList)
      · rw [hh] at HX
        go_wp2_with (first
          | (at_lookup; refine wpList_lookup_own_ok_int _ rfl _ _ 91 rfl 9 3 .i64 lawS Try.underlying91 Try.underlying3 (zeroI _) w.heap.size k _ rfl hown1 _ _ rfl HKEY.out ?_; intro c hat hwc; clear hat; rw [hh])
          | (at_mapUpdate; refine wpList_mapUpdate_own _ rfl _ _ _ 91 rfl 9 3 lawS Try.underlying91 _ w.heap.size k _ rfl hown1 (by unfold maxLen; omega) _ _ _ rfl rfl HKEY.out _ [] (plainElem_int Try.underlying3 (WalkArith.wf_i64 (by omega))) ?_; intro w2 hown2 hgr2))
        have HO := hide hown2
        have HB2 := hide (hB1.grown hgr2 hB1.size (fun j hj => by cases hj; exact Nat.le_refl _))
        clear hown2 hgr2 hown1
        go_wp2
        go_roundw
        case rel => exact ⟨k + 1, by omega, by go_num, by have := HO.out; rw [HX.out, if_neg (by simp)]; exact this, HB2.out⟩
        case measure => simp [intOf]; omega
      · rw [hh] at HX
        go_wp2_with (first
          | (at_lookup; refine wpList_lookup_own_ok_int _ rfl _ _ 91 rfl 9 3 .i64 lawS Try.underlying91 Try.underlying3 (zeroI _) w.heap.size k _ rfl hown1 _ _ rfl HKEY.out ?_; intro c hat hwc; clear hat; rw [hh]))
        have HO := hide hown1
        clear hown1
        go_wp2
        go_roundw
        case rel => exact ⟨k + 1, by omega, by go_num, by have := HO.out; rw [HX.out, if_pos trivial]; exact this.mono (by omega), hB1⟩
        case measure => simp [intOf]; omega
    · have e : Hid (k = n) := by show k = n; omega
      go_wp2
      go_ret
      exact ⟨rfl, by rw [e.out] at hown; exact hown, hB⟩
end Go.Proofs.Ytngdgogjlpjjpac
