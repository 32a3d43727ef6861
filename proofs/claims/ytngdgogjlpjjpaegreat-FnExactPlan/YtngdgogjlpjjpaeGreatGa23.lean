import Derived.Test.YtngdgogjlpjjpaeGreatGa22
import Derived.Deep.RegionHeld3
namespace Go.Proofs.YtngdgogjlpjjpaeGreat
open Go.RowKit
set_option linter.unusedVariables false
set_option linter.unusedSimpArgs false
set_option maxRecDepth 100000

theorem flat_clG : ∀ (xs : List Tg) (i : Nat), i < xs.length → (xs.flatMap clG)[i * 3]? = some (.int .i64 (xs.getD i zT).1) ∧ (xs.flatMap clG)[i * 3 + 1]? = some (.int .i64 (xs.getD i zT).2.1) ∧ (xs.flatMap clG)[i * 3 + 2]? = some (.int .i64 (xs.getD i zT).2.2)
  | [], i, h => by simp at h
  | x :: xs, 0, h => by simp [clG]
  | x :: xs, i + 1, h => by
    obtain ⟨h1, h2, h3⟩ := flat_clG xs i (by simpa using h)
    rw [show (i + 1) * 3 = i * 3 + 1 + 1 + 1 by omega]
    simp only [List.flatMap_cons, clG, List.cons_append, List.nil_append, List.getElem?_cons_succ]
    exact ⟨h1, h2, h3⟩
theorem ogG_at {w : World} {base n c : Nat} {a : Option Addr} {xs : List Tg} (h : OG 71 3 clG w base (.slice a n c) xs) (m : Nat) (hm : m < n) : ∃ g, a = some ⟨g, 0, none⟩ ∧ w.cell? ⟨g, m * 3, none⟩ = some (.int .i64 (xs.getD m zT).1) ∧ w.cell? ⟨g, m * 3 + 1, none⟩ = some (.int .i64 (xs.getD m zT).2.1) ∧ w.cell? ⟨g, m * 3 + 2, none⟩ = some (.int .i64 (xs.getD m zT).2.2) := by
  obtain ⟨hl, _, _, h4⟩ := og_parts h
  obtain ⟨g, hg, hc⟩ := h4 (by omega)
  obtain ⟨e0, e1, e2⟩ := flat_clG xs m (by omega)
  exact ⟨g, hg, hc _ _ e0, hc _ _ e1, hc _ _ e2⟩

set_option maxHeartbeats 2000000 in
theorem eqTargetS_same (a a' : Option Addr) (n c c' base base' : Nat) (xs : List Tg) (w : World) (h : OG 71 3 clG w base (.slice a n c) xs) (h' : OG 71 3 clG w base' (.slice a' n c') xs) (hn : n ≤ 1048576) :
    Calls Tryz.prog 148 #[.slice a n c, .slice a' n c'] w fun e w' => e = .returned (.bool true) ∧ Below w.heap.size w w' := by
  have hne : ((n : Int) != (n : Int)) = false := by simp
  have HH := hide (And.intro h h')
  clear h h'
  go_enter Tryz.func148, Tryz.ntmps148
  go_wp2
  go_loopw [5] (fun i wr => ∃ k : Nat, k ≤ n ∧ i = .int .i64 k ∧ Below w.heap.size w wr) (fun i _ => n - (intOf i).toNat)
  case atStart => exact ⟨0, Nat.zero_le _, rfl, Below.refl _ _⟩
  case round =>
    obtain ⟨k, hk, rfl, hB⟩ := hrel
    by_cases hlt : k < n
    · have hlt' : (k : Int) < (n : Int) := by omega
      obtain ⟨b, rfl, q1, q2, q3⟩ := ogG_at (HH.out.1.below hB) k hlt
      obtain ⟨b', rfl, p1, p2, p3⟩ := ogG_at (HH.out.2.below hB) k hlt
      generalize xs.getD k zT = r at *
      obtain ⟨g1, g2, g3⟩ := r
      simp only at q1 q2 q3 p1 p2 p3
      have hlb := World.block_lt_of_cell? _ _ q1
      have hlb' := World.block_lt_of_cell? _ _ p1
      have HB := hide hB
      clear hB
      go_wp2
      go_region_held3 (fun w' => w'.cell? ⟨b, k * 3, none⟩ = some (.int .i64 g1) ∧ w'.cell? ⟨b, k * 3 + 1, none⟩ = some (.int .i64 g2) ∧ w'.cell? ⟨b, k * 3 + 2, none⟩ = some (.int .i64 g3) ∧ w'.cell? ⟨b', k * 3, none⟩ = some (.int .i64 g1) ∧ w'.cell? ⟨b', k * 3 + 1, none⟩ = some (.int .i64 g2) ∧ w'.cell? ⟨b', k * 3 + 2, none⟩ = some (.int .i64 g3)) (go_keep)
        (first
          | (go_at_call 210; refine (eqTarget_same g1 g2 g3 _).mono ?_; rintro e w1 ⟨rfl, hb1⟩; replace hb1 := undrew hb1; have key : ∀ g o v, wr.cell? ⟨g, o, none⟩ = some v → w1.cell? ⟨g, o, none⟩ = some v := (fun g o v hv => (hb1.cell (World.block_lt_of_cell? wr _ hv)).trans hv); have r1 := key _ _ _ q1; have r2 := key _ _ _ q2; have r3 := key _ _ _ q3; have s1 := key _ _ _ p1; have s2 := key _ _ _ p2; have s3 := key _ _ _ p3; clear key))
      have HB1 := hide (HB.out.trans (hb1.mono HB.out.size))
      clear q1 q2 q3 p1 p2 p3 hb1 r1 r2 r3 s1 s2 s3
      go_wp2
      go_roundw
      case rel => exact ⟨k + 1, by omega, by go_num, HB1.out⟩
      case measure => simp [intOf]; omega
    · have HB := hide hB
      clear hB
      go_wp2
      go_ret
      exact ⟨rfl, HB.out⟩
end Go.Proofs.YtngdgogjlpjjpaeGreat

namespace Go.Proofs.YtngdgogjlpjjpaeGreat
open Go.RowKit
set_option linter.unusedVariables false
set_option linter.unusedSimpArgs false
set_option maxRecDepth 100000

def zTB : TB := ([], none, 0)
theorem OTg.below' {w w' : World} {base lo : Nat} {v : Value} {ts : List TB} (h : OTg w base lo v ts) (hb : Below w.heap.size w w') : OTg w' base lo v ts := OR.below h hb
theorem otg_at {w : World} {base lo n c : Nat} {a : Option Addr} {ts : List TB} (h : OTg w base lo (.slice a n c) ts) (i : Nat) (hi : i < n) : ∃ g, a = some ⟨g, 0, none⟩ ∧ w.cell? ⟨g, i, none⟩ = some (svT (ts.getD i zTB)) ∧ OG 71 3 clG w lo (svT (ts.getD i zTB)) (ts.getD i zTB).1 := by
  obtain ⟨hl, _, _, h4⟩ := og_parts h.head
  obtain ⟨g, hg, hc⟩ := h4 (by omega)
  refine ⟨g, hg, hc i _ ?_, h.rows _ (by simp [List.getD_eq_getElem?_getD, show i < ts.length by omega])⟩
  rw [show ts.flatMap clTB = ts.map svT from flat_one _ _]
  simp [List.getD_eq_getElem?_getD, show i < ts.length by omega]

set_option maxHeartbeats 2000000 in
theorem eqTargetSS_same (a a' : Option Addr) (n c c' base lo base' lo' : Nat) (ts ts' : List TB) (w : World) (h : OTg w base lo (.slice a n c) ts) (h' : OTg w base' lo' (.slice a' n c') ts') (hl : ts.length = n) (he : ts.map (fun x => x.1) = ts'.map (fun x => x.1)) (hn : n ≤ 1048576) (hr : ∀ x ∈ ts, x.1.length ≤ 1048576) :
    Calls Tryz.prog 61 #[.slice a n c, .slice a' n c'] w fun e w' => e = .returned (.bool true) ∧ Below w.heap.size w w' := by
  have hne : ((n : Int) != (n : Int)) = false := by simp
  have hl' : ts'.length = n := by have := congrArg List.length he; simp at this; omega
  have HH := hide (And.intro h h')
  have HE := hide (show ∀ i, i < n → (ts'.getD i zTB).1 = (ts.getD i zTB).1 from fun i hi => by
    have := congrArg (fun l => l[i]?) he
    simp [hl, hl', hi] at this
    simpa [List.getD_eq_getElem?_getD, hl, hl', hi] using this.symm)
  have HR := hide (show ∀ i, i < n → (ts.getD i zTB).1.length ≤ 1048576 from fun i hi => hr _ (by simp [List.getD_eq_getElem?_getD, hl, hi]))
  clear h h' he hr
  go_enter Tryz.func61, Tryz.ntmps61
  go_wp2
  go_loopw [5] (fun i wr => ∃ k : Nat, k ≤ n ∧ i = .int .i64 k ∧ Below w.heap.size w wr) (fun i _ => n - (intOf i).toNat)
  case atStart => exact ⟨0, Nat.zero_le _, rfl, Below.refl _ _⟩
  case round =>
    obtain ⟨k, hk, rfl, hB⟩ := hrel
    by_cases hlt : k < n
    · have hlt' : (k : Int) < (n : Int) := by omega
      have o1 := OTg.below' HH.out.1 hB
      have o2 := OTg.below' HH.out.2 hB
      obtain ⟨b, rfl, q1, r1⟩ := otg_at o1 k hlt
      obtain ⟨b', rfl, p1, r2⟩ := otg_at o2 k hlt
      have hx := HE.out k hlt
      have hxr := HR.out k hlt
      generalize ts.getD k zTB = x at *
      generalize ts'.getD k zTB = x' at *
      obtain ⟨xl, xa, xc⟩ := x
      obtain ⟨yl, ya, yc⟩ := x'
      dsimp only at hx hxr
      subst hx
      unfold svT at q1 p1 r1 r2
      dsimp only at q1 p1 r1 r2
      have HB := hide hB
      have HEQ := hide (fun (W : World) (hb : Below wr.heap.size wr W) => eqTargetS_same xa ya yl.length xc yc _ _ yl W (r1.below hb) (r2.below hb) hxr)
      clear hB o1 o2 r1 r2
      go_wp2
      go_region_held3 (fun w' => w'.cell? ⟨b, k, none⟩ = some (.slice xa yl.length xc) ∧ w'.cell? ⟨b', k, none⟩ = some (.slice ya yl.length yc)) (go_keep)
        (first
          | (go_at_call 148; refine (HEQ.out _ (by first | exact Below.refl _ _ | exact (Below.refl _ _).drew)).mono ?_; rintro e w1 ⟨rfl, hb1⟩; replace hb1 := undrew hb1; have key : ∀ g o v, wr.cell? ⟨g, o, none⟩ = some v → w1.cell? ⟨g, o, none⟩ = some v := (fun g o v hv => (hb1.cell (World.block_lt_of_cell? wr _ hv)).trans hv); have s1 := key _ _ _ q1; have s2 := key _ _ _ p1; clear key))
      have HB1 := hide (HB.out.trans (hb1.mono HB.out.size))
      clear q1 p1 hb1 s1 s2 HEQ
      go_wp2
      go_roundw
      case rel => exact ⟨k + 1, by omega, by go_num, HB1.out⟩
      case measure => simp [intOf]; omega
    · have HB := hide hB
      clear hB
      go_wp2
      go_ret
      exact ⟨rfl, HB.out⟩
end Go.Proofs.YtngdgogjlpjjpaeGreat

namespace Go.Proofs.YtngdgogjlpjjpaeGreat
open Go.RowKit
set_option linter.unusedVariables false
set_option linter.unusedSimpArgs false
set_option maxRecDepth 100000

set_option maxHeartbeats 1000000 in
theorem eqPlace_same (t d s : Int) (a a' : Option Addr) (n c c' : Nat) (zs : List Int) (w : World) (h : IS w a n c zs) (h' : IS w a' n c' zs) :
    Calls Tryz.prog 147 #[.agg #[.int .i64 t, .slice a n c, .int .i64 d, .int .i64 s], .agg #[.int .i64 t, .slice a' n c', .int .i64 d, .int .i64 s]] w fun e w' => e = .returned (.bool true) ∧ Below w.heap.size w w' := by
  have hB0 : Below w.heap.size w ((w.alloc (.cells #[.int .i64 t, .slice a n c, .int .i64 d, .int .i64 s] 138)).alloc (.cells #[.int .i64 t, .slice a' n c', .int .i64 d, .int .i64 s] 138)) := ((Below.refl _ _).alloc (Nat.le_refl _) _).alloc (by simp) _
  have u0 := (Blk.new w #[.int .i64 t, .slice a n c, .int .i64 d, .int .i64 s] 138).alloc (.cells #[.int .i64 t, .slice a' n c', .int .i64 d, .int .i64 s] 138)
  have v0 := Blk.new (w.alloc (.cells #[.int .i64 t, .slice a n c, .int .i64 d, .int .i64 s] 138)) #[.int .i64 t, .slice a' n c', .int .i64 d, .int .i64 s] 138
  simp only [World.size_alloc] at v0
  have n1 : (t != t) = false := by simp
  have n2 : (d != d) = false := by simp
  have n3 : (s != s) = false := by simp
  go_enter Tryz.func147, Tryz.ntmps147
  go_wp2_with fail
  refine (eqIntS_any a a' n c n c' zs zs _ (h.below hB0) (h'.below hB0)).mono ?_
  rw [decide_eq_true rfl]
  rintro e w1 ⟨rfl, hb⟩
  have HB := hide (hB0.trans (hb.mono (by have := hB0.size; simp; omega)))
  have u1 := u0.below hb
  have v1 := v0.below hb
  have c2 : w1.cell? ⟨w.heap.size, 2, none⟩ = some (.int .i64 d) := u1.cell 2
  have c3 : w1.cell? ⟨w.heap.size, 3, none⟩ = some (.int .i64 s) := u1.cell 3
  have d2 : w1.cell? ⟨w.heap.size + 1, 2, none⟩ = some (.int .i64 d) := v1.cell 2
  have d3 : w1.cell? ⟨w.heap.size + 1, 3, none⟩ = some (.int .i64 s) := v1.cell 3
  clear hB0 u0 v0 hb u1 v1
  go_wp2
  go_ret
  exact ⟨rfl, HB.out⟩
end Go.Proofs.YtngdgogjlpjjpaeGreat

namespace Go.Proofs.YtngdgogjlpjjpaeGreat
open Go.RowKit
set_option linter.unusedVariables false
set_option linter.unusedSimpArgs false
set_option maxRecDepth 100000

def zPB : PB := (⟨0, [], 0, 0⟩, none, 0)
theorem flat_clP : ∀ (xs : List PB) (i : Nat), i < xs.length → (xs.flatMap clP)[i * 4]? = some (.int .i64 (xs.getD i zPB).1.text) ∧ (xs.flatMap clP)[i * 4 + 1]? = some (svP (xs.getD i zPB)) ∧ (xs.flatMap clP)[i * 4 + 2]? = some (.int .i64 (xs.getD i zPB).1.data) ∧ (xs.flatMap clP)[i * 4 + 3]? = some (.int .i64 (xs.getD i zPB).1.size)
  | [], i, h => by simp at h
  | x :: xs, 0, h => by simp [clP]
  | x :: xs, i + 1, h => by
    obtain ⟨h1, h2, h3, h4⟩ := flat_clP xs i (by simpa using h)
    rw [show (i + 1) * 4 = i * 4 + 1 + 1 + 1 + 1 by omega]
    simp only [List.flatMap_cons, clP, List.cons_append, List.nil_append, List.getElem?_cons_succ]
    exact ⟨h1, h2, h3, h4⟩
theorem opl_at {w : World} {base lo n c : Nat} {a : Option Addr} {xs : List PB} (h : OPl w base lo (.slice a n c) xs) (i : Nat) (hi : i < n) : ∃ g, a = some ⟨g, 0, none⟩ ∧ w.cell? ⟨g, i * 4, none⟩ = some (.int .i64 (xs.getD i zPB).1.text) ∧ w.cell? ⟨g, i * 4 + 1, none⟩ = some (svP (xs.getD i zPB)) ∧ w.cell? ⟨g, i * 4 + 2, none⟩ = some (.int .i64 (xs.getD i zPB).1.data) ∧ w.cell? ⟨g, i * 4 + 3, none⟩ = some (.int .i64 (xs.getD i zPB).1.size) ∧ OG 3 1 clI w lo (svP (xs.getD i zPB)) (xs.getD i zPB).1.banks := by
  obtain ⟨hl, _, _, h4⟩ := og_parts h.head
  obtain ⟨g, hg, hc⟩ := h4 (by omega)
  obtain ⟨e0, e1, e2, e3⟩ := flat_clP xs i (by omega)
  exact ⟨g, hg, hc _ _ e0, hc _ _ e1, hc _ _ e2, hc _ _ e3, h.rows _ (by simp [List.getD_eq_getElem?_getD, show i < xs.length by omega])⟩

set_option maxHeartbeats 2000000 in
theorem eqPlaceS_same (a a' : Option Addr) (n c c' base lo base' lo' : Nat) (xs xs' : List PB) (w : World) (h : OPl w base lo (.slice a n c) xs) (h' : OPl w base' lo' (.slice a' n c') xs') (hl : xs.length = n) (he : xs.map (fun x => x.1) = xs'.map (fun x => x.1)) (hn : n ≤ 1048576) (hr : ∀ x ∈ xs, ∀ z ∈ x.1.banks, wfi z) :
    Calls Tryz.prog 59 #[.slice a n c, .slice a' n c'] w fun e w' => e = .returned (.bool true) ∧ Below w.heap.size w w' := by
  have hne : ((n : Int) != (n : Int)) = false := by simp
  have hl' : xs'.length = n := by have := congrArg List.length he; simp at this; omega
  have HH := hide (And.intro h h')
  have HE := hide (show ∀ i, i < n → (xs'.getD i zPB).1 = (xs.getD i zPB).1 from fun i hi => by
    have := congrArg (fun l => l[i]?) he
    simp [hl, hl', hi] at this
    simpa [List.getD_eq_getElem?_getD, hl, hl', hi] using this.symm)
  have HR := hide (show ∀ i, i < n → ∀ z ∈ (xs.getD i zPB).1.banks, wfi z from fun i hi => hr _ (by simp [List.getD_eq_getElem?_getD, hl, hi]))
  clear h h' he hr
  go_enter Tryz.func59, Tryz.ntmps59
  go_wp2
  go_loopw [5] (fun i wr => ∃ k : Nat, k ≤ n ∧ i = .int .i64 k ∧ Below w.heap.size w wr) (fun i _ => n - (intOf i).toNat)
  case atStart => exact ⟨0, Nat.zero_le _, rfl, Below.refl _ _⟩
  case round =>
    obtain ⟨k, hk, rfl, hB⟩ := hrel
    by_cases hlt : k < n
    · have hlt' : (k : Int) < (n : Int) := by omega
      obtain ⟨b, rfl, q1, q2, q3, q4, r1⟩ := opl_at (OR.below HH.out.1 hB) k hlt
      obtain ⟨b', rfl, p1, p2, p3, p4, r2⟩ := opl_at (OR.below HH.out.2 hB) k hlt
      have hx := HE.out k hlt
      have hxr := HR.out k hlt
      generalize xs.getD k zPB = x at *
      generalize xs'.getD k zPB = x' at *
      obtain ⟨⟨xt, xb, xd, xz⟩, xa, xc⟩ := x
      obtain ⟨yl, ya, yc⟩ := x'
      dsimp only at hx hxr
      subst hx
      unfold svP at q2 p2 r1 r2
      dsimp only at q1 q2 q3 q4 p1 p2 p3 p4 r1 r2
      have HB := hide hB
      have HEQ := hide (fun (W : World) (hb : Below wr.heap.size wr W) => eqPlace_same xt xd xz xa ya xb.length xc yc xb W (og_is (r1.below hb) hxr) (og_is (r2.below hb) hxr))
      clear hB r1 r2 hxr
      go_wp2
      go_region_held3 (fun w' => w'.cell? ⟨b, k * 4, none⟩ = some (.int .i64 xt) ∧ w'.cell? ⟨b, k * 4 + 1, none⟩ = some (.slice xa xb.length xc) ∧ w'.cell? ⟨b, k * 4 + 2, none⟩ = some (.int .i64 xd) ∧ w'.cell? ⟨b, k * 4 + 3, none⟩ = some (.int .i64 xz) ∧ w'.cell? ⟨b', k * 4, none⟩ = some (.int .i64 xt) ∧ w'.cell? ⟨b', k * 4 + 1, none⟩ = some (.slice ya xb.length yc) ∧ w'.cell? ⟨b', k * 4 + 2, none⟩ = some (.int .i64 xd) ∧ w'.cell? ⟨b', k * 4 + 3, none⟩ = some (.int .i64 xz)) (go_keep)
        (first
          | (go_at_call 147; refine (HEQ.out _ (by first | exact Below.refl _ _ | exact (Below.refl _ _).drew)).mono ?_; rintro e w1 ⟨rfl, hb1⟩; replace hb1 := undrew hb1; have key : ∀ g o v, wr.cell? ⟨g, o, none⟩ = some v → w1.cell? ⟨g, o, none⟩ = some v := (fun g o v hv => (hb1.cell (World.block_lt_of_cell? wr _ hv)).trans hv); have s1 := key _ _ _ q1; have s2 := key _ _ _ q2; have s3 := key _ _ _ q3; have s4 := key _ _ _ q4; have t1 := key _ _ _ p1; have t2 := key _ _ _ p2; have t3 := key _ _ _ p3; have t4 := key _ _ _ p4; clear key))
      have HB1 := hide (HB.out.trans (hb1.mono HB.out.size))
      clear q1 q2 q3 q4 p1 p2 p3 p4 hb1 s1 s2 s3 s4 t1 t2 t3 t4 HEQ
      go_wp2
      go_roundw
      case rel => exact ⟨k + 1, by omega, by go_num, HB1.out⟩
      case measure => simp [intOf]; omega
    · have HB := hide hB
      clear hB
      go_wp2
      go_ret
      exact ⟨rfl, HB.out⟩
end Go.Proofs.YtngdgogjlpjjpaeGreat

namespace Go.Proofs.YtngdgogjlpjjpaeGreat
open Go.RowKit
set_option linter.unusedVariables false
set_option linter.unusedSimpArgs false
set_option maxRecDepth 100000

/-- numbers that a layout holds are numbers -/
structure LayR (L : Lay) : Prop where
  p : ∀ x ∈ L.places, ∀ z ∈ x.banks, wfi z
  s : ∀ z ∈ L.slots, wfi z
  n : L.places.length ≤ 1048576 ∧ L.targets.length ≤ 1048576 ∧ ∀ x ∈ L.targets, x.length ≤ 1048576

set_option maxHeartbeats 2000000 in
theorem eqLayout_same {w : World} {base base' : Nat} {L : Lay} {a0 : Option Addr} {c0 : Nat} {xs : List PB} {a2 : Option Addr} {c2 : Nat} {a5 : Option Addr} {c5 : Nat} {ts : List TB} {a0' : Option Addr} {c0' : Nat} {xs' : List PB} {a2' : Option Addr} {c2' : Nat} {a5' : Option Addr} {c5' : Nat} {ts' : List TB} (R : LayR L) (h : LayO w base L a0 c0 xs a2 c2 a5 c5 ts) (h' : LayO w base' L a0' c0' xs' a2' c2' a5' c5' ts') :
    Calls Tryz.prog 16 #[.agg (layV L a0 c0 xs a2 c2 a5 c5 ts), .agg (layV L a0' c0' xs' a2' c2' a5' c5' ts')] w fun e w' => e = .returned (.bool true) ∧ Below w.heap.size w w' := by
  have lx : xs'.length = xs.length := by have := congrArg List.length (h.ps.trans h'.ps.symm); simp at this; omega
  have lt : ts'.length = ts.length := by have := congrArg List.length (h.tt.trans h'.tt.symm); simp at this; omega
  have hpl : xs.length = L.places.length := by rw [← h.ps, List.length_map]
  have htl : ts.length = L.targets.length := by rw [← h.tt, List.length_map]
  have hp' := h'.p
  have ht' := h'.t
  rw [lx] at hp'
  rw [lt] at ht'
  unfold layV
  rw [lx, lt]
  have hB0 : Below w.heap.size w ((w.alloc (.cells #[.slice a0 xs.length c0, .int .i64 L.stack, .slice a2 L.slots.length c2, .int .i64 L.flash, .int .i64 L.ram, .slice a5 ts.length c5] 36)).alloc (.cells #[.slice a0' xs.length c0', .int .i64 L.stack, .slice a2' L.slots.length c2', .int .i64 L.flash, .int .i64 L.ram, .slice a5' ts.length c5'] 36)) := ((Below.refl _ _).alloc (Nat.le_refl _) _).alloc (by simp) _
  have u := (Blk.new w #[.slice a0 xs.length c0, .int .i64 L.stack, .slice a2 L.slots.length c2, .int .i64 L.flash, .int .i64 L.ram, .slice a5 ts.length c5] 36).alloc (.cells #[.slice a0' xs.length c0', .int .i64 L.stack, .slice a2' L.slots.length c2', .int .i64 L.flash, .int .i64 L.ram, .slice a5' ts.length c5'] 36)
  have v := Blk.new (w.alloc (.cells #[.slice a0 xs.length c0, .int .i64 L.stack, .slice a2 L.slots.length c2, .int .i64 L.flash, .int .i64 L.ram, .slice a5 ts.length c5] 36)) #[.slice a0' xs.length c0', .int .i64 L.stack, .slice a2' L.slots.length c2', .int .i64 L.flash, .int .i64 L.ram, .slice a5' ts.length c5'] 36
  simp only [World.size_alloc] at v
  have n1 : (L.stack != L.stack) = false := by simp
  have n2 : (L.flash != L.flash) = false := by simp
  have n3 : (L.ram != L.ram) = false := by simp
  have H1 := hide (fun (W : World) (hb : Below w.heap.size w W) => eqPlaceS_same a0 a0' xs.length c0 c0' base base base' base' xs xs' W (h.p.below hb) (hp'.below hb) rfl (h.ps.trans h'.ps.symm) (by have := R.n.1; omega) (fun x hx => R.p x.1 (by rw [← h.ps]; exact List.mem_map.2 ⟨x, hx, rfl⟩)))
  have H2 := hide (fun (W : World) (hb : Below w.heap.size w W) => eqIntS_any a2 a2' L.slots.length c2 L.slots.length c2' L.slots L.slots W (og_is (h.s.below hb) R.s) (og_is (h'.s.below hb) R.s))
  have H3 := hide (fun (W : World) (hb : Below w.heap.size w W) => eqTargetSS_same a5 a5' ts.length c5 c5' base base base' base' ts ts' W (h.t.below hb) (ht'.below hb) rfl (h.tt.trans h'.tt.symm) (by have := R.n.2.1; omega) (fun x hx => R.n.2.2 x.1 (by rw [← h.tt]; exact List.mem_map.2 ⟨x, hx, rfl⟩)))
  clear h h' hp' ht' lx lt hpl htl
  go_enter Tryz.func16, Tryz.ntmps16
  go_wp2_with fail
  refine (H1.out _ hB0).mono ?_
  rintro e w1 ⟨rfl, hb⟩
  have hB1 := hB0.trans (hb.mono (by have := hB0.size; simp; omega))
  have u1 := u.below hb
  have v1 := v.below hb
  clear hB0 u v hb
  have u := u1
  have v := v1
  clear u1 v1
  have p0 : w1.cell? ⟨w.heap.size, 0, none⟩ = some (.slice a0 xs.length c0) := u.cell 0
  have p1 : w1.cell? ⟨w.heap.size, 1, none⟩ = some (.int .i64 L.stack) := u.cell 1
  have p2 : w1.cell? ⟨w.heap.size, 2, none⟩ = some (.slice a2 L.slots.length c2) := u.cell 2
  have p3 : w1.cell? ⟨w.heap.size, 3, none⟩ = some (.int .i64 L.flash) := u.cell 3
  have p4 : w1.cell? ⟨w.heap.size, 4, none⟩ = some (.int .i64 L.ram) := u.cell 4
  have p5 : w1.cell? ⟨w.heap.size, 5, none⟩ = some (.slice a5 ts.length c5) := u.cell 5
  have q0 : w1.cell? ⟨w.heap.size + 1, 0, none⟩ = some (.slice a0' xs.length c0') := v.cell 0
  have q1 : w1.cell? ⟨w.heap.size + 1, 1, none⟩ = some (.int .i64 L.stack) := v.cell 1
  have q2 : w1.cell? ⟨w.heap.size + 1, 2, none⟩ = some (.slice a2' L.slots.length c2') := v.cell 2
  have q3 : w1.cell? ⟨w.heap.size + 1, 3, none⟩ = some (.int .i64 L.flash) := v.cell 3
  have q4 : w1.cell? ⟨w.heap.size + 1, 4, none⟩ = some (.int .i64 L.ram) := v.cell 4
  have q5 : w1.cell? ⟨w.heap.size + 1, 5, none⟩ = some (.slice a5' ts.length c5') := v.cell 5
  go_wp2_with fail
  refine (H2.out _ hB1).mono ?_
  rintro e w2 ⟨he, hb⟩
  obtain rfl : e = .returned (.bool true) := by rw [he]; simp
  clear he
  have hB2 := hB1.trans (hb.mono hB1.size)
  have u1 := u.below hb
  have v1 := v.below hb
  clear hB1 u v hb p0 p1 p2 p3 p4 p5 q0 q1 q2 q3 q4 q5
  have u := u1
  have v := v1
  clear u1 v1
  have p0 : w2.cell? ⟨w.heap.size, 0, none⟩ = some (.slice a0 xs.length c0) := u.cell 0
  have p1 : w2.cell? ⟨w.heap.size, 1, none⟩ = some (.int .i64 L.stack) := u.cell 1
  have p2 : w2.cell? ⟨w.heap.size, 2, none⟩ = some (.slice a2 L.slots.length c2) := u.cell 2
  have p3 : w2.cell? ⟨w.heap.size, 3, none⟩ = some (.int .i64 L.flash) := u.cell 3
  have p4 : w2.cell? ⟨w.heap.size, 4, none⟩ = some (.int .i64 L.ram) := u.cell 4
  have p5 : w2.cell? ⟨w.heap.size, 5, none⟩ = some (.slice a5 ts.length c5) := u.cell 5
  have q0 : w2.cell? ⟨w.heap.size + 1, 0, none⟩ = some (.slice a0' xs.length c0') := v.cell 0
  have q1 : w2.cell? ⟨w.heap.size + 1, 1, none⟩ = some (.int .i64 L.stack) := v.cell 1
  have q2 : w2.cell? ⟨w.heap.size + 1, 2, none⟩ = some (.slice a2' L.slots.length c2') := v.cell 2
  have q3 : w2.cell? ⟨w.heap.size + 1, 3, none⟩ = some (.int .i64 L.flash) := v.cell 3
  have q4 : w2.cell? ⟨w.heap.size + 1, 4, none⟩ = some (.int .i64 L.ram) := v.cell 4
  have q5 : w2.cell? ⟨w.heap.size + 1, 5, none⟩ = some (.slice a5' ts.length c5') := v.cell 5
  go_wp2_with fail
  refine (H3.out _ hB2).mono ?_
  rintro e w3 ⟨rfl, hb⟩
  have HB := hide (hB2.trans (hb.mono hB2.size))
  clear hB2 u v hb p0 p1 p2 p3 p4 p5 q0 q1 q2 q3 q4 q5
  go_wp2
  go_ret
  exact ⟨rfl, HB.out⟩
end Go.Proofs.YtngdgogjlpjjpaeGreat

namespace Go.Proofs.YtngdgogjlpjjpaeGreat
open Go.RowKit
set_option linter.unusedVariables false
set_option linter.unusedSimpArgs false
set_option maxRecDepth 100000

theorem flat_setG : ∀ (xs : List Tg) (i : Nat) (x : Tg), i < xs.length → (((xs.flatMap clG).set (i * 3) (.int .i64 x.1)).set (i * 3 + 1) (.int .i64 x.2.1)).set (i * 3 + 2) (.int .i64 x.2.2) = (xs.set i x).flatMap clG
  | [], i, x, h => by simp at h
  | y :: ys, 0, x, h => by simp [clG]
  | y :: ys, i + 1, x, h => by
    have ih := flat_setG ys i x (by simpa using h)
    rw [show (i + 1) * 3 = i * 3 + 1 + 1 + 1 by omega]
    simp only [List.flatMap_cons, clG, List.cons_append, List.nil_append, List.set_cons_succ]
    rw [← ih]
theorem ogG_set {w : World} {base g n c : Nat} {xs : List Tg} (h : OG 71 3 clG w base (.slice (some ⟨g, 0, none⟩) n c) xs) (i : Nat) (hi : i < n) (o p q : Int) : OG 71 3 clG (((w.setCell ⟨g, i * 3, none⟩ (.int .i64 o)).setCell ⟨g, i * 3 + 1, none⟩ (.int .i64 p)).setCell ⟨g, i * 3 + 2, none⟩ (.int .i64 q)) base (.slice (some ⟨g, 0, none⟩) n c) (xs.set i (o, p, q)) := by
  obtain ⟨hl, ⟨h0, _⟩ | ⟨g', cap', cur, hv, hg, hh, h1, h2, h3, h4⟩⟩ := h
  · simp at h0
  · simp at hv
    obtain ⟨rfl, rfl, rfl⟩ := hv
    refine ⟨?_, .inr ⟨g, c, ((cur.setIfInBounds (i * 3) (.int .i64 o)).setIfInBounds (i * 3 + 1) (.int .i64 p)).setIfInBounds (i * 3 + 2) (.int .i64 q), by simp, hg, Blk.set (Blk.set (Blk.set (w := w) hh _ _) _ _) _ _, by simpa using h1, h2, by simpa using h3, ?_⟩⟩
    · rw [← flat_setG xs i (o, p, q) hi]
      simpa using hl
    · rw [List.length_set, Array.toList_setIfInBounds, Array.toList_setIfInBounds, Array.toList_setIfInBounds, List.take_set, List.take_set, List.take_set, h4]
      exact flat_setG xs i (o, p, q) hi
def mkG (k i : Nat) : Tg := (((k + 3 * i : Nat) : Int), ((k + 3 * i + 1 : Nat) : Int), ((k + 3 * i + 2 : Nat) : Int))
def marksG (k n : Nat) : List Tg := (List.range n).map (mkG k)
def mixedG (zs : List Tg) (k m : Nat) : List Tg := (List.range zs.length).map fun i => if i < m then mkG k i else zs.getD i zT
theorem marksG_len (k n : Nat) : (marksG k n).length = n := by simp [marksG]
theorem mixedG_len (zs : List Tg) (k m : Nat) : (mixedG zs k m).length = zs.length := by simp [mixedG]
theorem mixedG_zero (zs : List Tg) (k : Nat) : mixedG zs k 0 = zs := by
  apply List.ext_getElem
  · simp [mixedG]
  · intro i h1 h2; simp [mixedG, h2]
theorem mixedG_all (zs : List Tg) (k : Nat) : mixedG zs k zs.length = marksG k zs.length := by
  apply List.ext_getElem
  · simp [mixedG, marksG]
  · intro i h1 h2
    simp [marksG] at h2
    simp [mixedG, marksG, h2]
theorem mixedG_set (zs : List Tg) (k m : Nat) (h : m < zs.length) : (mixedG zs k m).set m (mkG k m) = mixedG zs k (m + 1) := by
  apply List.ext_getElem
  · simp [mixedG]
  · intro i h1 h2
    simp only [mixedG, List.getElem_set, List.getElem_map, List.getElem_range]
    by_cases hik : m = i
    · subst hik; simp
    · by_cases h3 : i < m
      · simp [hik, h3, show i < m + 1 by omega]
      · simp [hik, h3, show ¬ i < m + 1 by omega]
set_option maxHeartbeats 2000000 in
theorem markTargetS_some (g n cap base : Nat) (zs : List Tg) (k : Nat) (w : World) (h : OG 71 3 clG w base (.slice (some ⟨g, 0, none⟩) n cap) zs) (hn : n ≤ 1048576) (hk : k ≤ 4194304) :
    Calls Tryz.prog 181 #[.slice (some ⟨g, 0, none⟩) n cap, .int .i64 k] w fun e w' => e = .returned (.int .i64 ((k + 3 * n : Nat) : Int)) ∧ OG 71 3 clG w' base (.slice (some ⟨g, 0, none⟩) n cap) (marksG k n) ∧ Turn (fun j => j = g) w w' := by
  have hl := (og_parts h).1
  go_enter Tryz.func181, Tryz.ntmps181
  go_wp2
  go_loopw [1, 5] (fun x i wr => ∃ m : Nat, m ≤ n ∧ i = .int .i64 m ∧ x = .int .i64 ((k + 3 * m : Nat) : Int) ∧ OG 71 3 clG wr base (.slice (some ⟨g, 0, none⟩) n cap) (mixedG zs k m) ∧ Turn (fun j => j = g) w wr) (fun _ i _ => n - (intOf i).toNat)
  case atStart => exact ⟨0, Nat.zero_le _, rfl, rfl, by rw [mixedG_zero]; exact h, Turn.refl _ _⟩
  case round =>
    obtain ⟨m, hm, rfl, rfl, O, T⟩ := hrel
    by_cases hlt : m < n
    · have hlt' : (m : Int) < (n : Int) := by omega
      obtain ⟨g', hg', c0, c1, c2⟩ := ogG_at O m hlt
      simp at hg'
      subst hg'
      obtain ⟨cur, hb⟩ := own_kind O rfl
      have f0 : wr.frozen? ⟨g, m * 3, none⟩ = false := hb.frozen (m * 3)
      have f1 : wr.frozen? ⟨g, m * 3 + 1, none⟩ = false := hb.frozen (m * 3 + 1)
      have f2 : wr.frozen? ⟨g, m * 3 + 2, none⟩ = false := hb.frozen (m * 3 + 2)
      have HX := hide (fun (o p q : Int) (ho : o = ((k + 3 * m : Nat) : Int)) (hp : p = ((k + 3 * m + 1 : Nat) : Int)) (hq : q = ((k + 3 * m + 2 : Nat) : Int)) => by
        have O2 := ogG_set O m hlt o p q
        rw [show (o, p, q) = mkG k m by rw [ho, hp, hq]; rfl, mixedG_set zs k m (by omega)] at O2
        have T2 := ((T.trans (turn_set wr g (m * 3) (.int .i64 o))).trans (turn_set _ g (m * 3 + 1) (.int .i64 p))).trans (turn_set _ g (m * 3 + 2) (.int .i64 q))
        exact And.intro O2 T2)
      clear O T hb
      go_wp2
      go_roundw
      case rel => exact ⟨m + 1, by omega, by go_num, by go_num, (HX.out _ _ _ (by go_num) (by go_num) (by go_num)).1, (HX.out _ _ _ (by go_num) (by go_num) (by go_num)).2⟩
      case measure => simp [intOf]; omega
    · have e : Hid (m = n) := by show m = n; omega
      have HX := hide (And.intro O T)
      clear O T
      go_wp2
      go_ret
      refine ⟨ret_int (by rw [e.out]), ?_, HX.out.2⟩
      have := HX.out.1
      rw [e.out, ← hl, mixedG_all] at this
      rw [hl] at this
      exact this
end Go.Proofs.YtngdgogjlpjjpaeGreat

namespace Go.Proofs.YtngdgogjlpjjpaeGreat
open Go.RowKit
set_option linter.unusedVariables false
set_option linter.unusedSimpArgs false
set_option maxRecDepth 100000

set_option maxHeartbeats 1000000 in
theorem markTargetS_zero (a : Option Addr) (cap k : Nat) (w : World) :
    Calls Tryz.prog 181 #[.slice a 0 cap, .int .i64 k] w fun e w' => e = .returned (.int .i64 k) ∧ w = w' := by
  go_enter Tryz.func181, Tryz.ntmps181
  go_wp2
  go_loop [1, 5] (fun x i => i = .int .i64 0 ∧ x = .int .i64 k) (fun _ _ => 0)
  case atStart => exact ⟨rfl, rfl⟩
  case round =>
    obtain ⟨rfl, rfl⟩ := hrel
    go_wp2
    go_ret
    exact ⟨rfl, rfl⟩
theorem markTargetS_any (a : Option Addr) (n cap base : Nat) (zs : List Tg) (k : Nat) (w : World) (h : OG 71 3 clG w base (.slice a n cap) zs) (hn : n ≤ 1048576) (hk : k ≤ 4194304) :
    Calls Tryz.prog 181 #[.slice a n cap, .int .i64 k] w fun e w' => e = .returned (.int .i64 ((k + 3 * n : Nat) : Int)) ∧ OG 71 3 clG w' base (.slice a n cap) (marksG k n) ∧ Turn (fun j => (Value.slice a n cap).ownBlock = some j) w w' := by
  by_cases h1 : n = 0
  · subst h1
    refine (markTargetS_zero a cap k w).mono fun e w' he => ?_
    obtain ⟨rfl, rfl⟩ := he
    have hz : zs = [] := List.eq_nil_of_length_eq_zero (og_parts h).1
    subst hz
    exact ⟨rfl, h, Turn.refl _ _⟩
  · obtain ⟨g, rfl⟩ := og_addr h h1
    refine (markTargetS_some g n cap base zs k w h hn hk).mono fun e w' he => ⟨he.1, he.2.1, he.2.2.mono ?_⟩
    intro j hj
    subst hj
    rfl
theorem marksG_at (k n m : Nat) (h : m < n) : (marksG k n).getD m zT = mkG k m := by simp [marksG, List.getD_eq_getElem?_getD, h]

end Go.Proofs.YtngdgogjlpjjpaeGreat
