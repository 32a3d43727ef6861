import Derived.Test.YtngdgogjlpjjpacJ30
import Derived.Deep.RegionHeld3
namespace Go.Proofs.Ytngdgogjlpjjpac
open Go.RowKit
set_option linter.unusedVariables false
set_option linter.unusedSimpArgs false
set_option maxRecDepth 100000

/-- THE DOCUMENT'S READER: what is left, or nothing where the bytes ended early. -/
structure RdS (W : World) (g b n cap : Nat) (zs : List Int) (st : Option (List Int)) : Prop where
  pos : ∃ k, k ≤ n ∧ Blk W g #[.slice (some ⟨b, 0, none⟩) n cap, .int .i64 k, .bool st.isNone] 120 ∧ ∀ r, st = some r → r = zs.drop k
  bs : BS W (some ⟨b, 0, none⟩) n cap zs
  ne : b ≠ g
  small : n ≤ 1048576
theorem RdS.below {W W' : World} {g b n cap : Nat} {zs : List Int} {st : Option (List Int)} (h : RdS W g b n cap zs st) (hb : Below W.heap.size W W') : RdS W' g b n cap zs st := by
  obtain ⟨k, h1, h2, h3⟩ := h.pos
  exact ⟨⟨k, h1, h2.below hb, h3⟩, h.bs.below hb, h.ne, h.small⟩
theorem RdS.turn {S : Nat → Prop} {W W' : World} {g b n cap : Nat} {zs : List Int} {st : Option (List Int)} (h : RdS W g b n cap zs st) (t : Turn S W W') (hg : ¬ S g) (hb : ¬ S b) : RdS W' g b n cap zs st := by
  obtain ⟨k', p1, p3, p4⟩ := h.pos
  exact ⟨⟨k', p1, turn_blk t p3 hg, p4⟩, turn_bs t h.bs (fun j hj b' off e => by simp at e; intro e'; apply hb; rw [e.1, e']; exact hj), h.ne, h.small⟩
theorem RdS.range {W : World} {g b n cap : Nat} {zs r : List Int} (h : RdS W g b n cap zs (some r)) : Byt r := by
  obtain ⟨k, h1, h2, h3⟩ := h.pos
  rw [h3 r rfl]
  exact fun z hz => h.bs.2.2.1 z (List.mem_of_mem_drop hz)
/-- a reading that goes on where nothing is left -/
def oN (s : Nat) : Option (List Int) → Int × Option (List Int)
  | none => (0, none)
  | some zs => match pN s zs with
    | none => (0, none)
    | some x => (x.1, some x.2)
theorem oN_some {s : Nat} {zs r : List Int} {x : Int} (h : pN s zs = some (x, r)) : oN s (some zs) = (x, some r) := by show (match pN s zs with | none => _ | some x => _) = _; rw [h]
theorem oN_none {s : Nat} {zs : List Int} (h : pN s zs = none) : oN s (some zs) = (0, none) := by show (match pN s zs with | none => _ | some x => _) = _; rw [h]
theorem RdS.short {W : World} {g b n cap : Nat} {zs : List Int} {st : Option (List Int)} (h : RdS W g b n cap zs st) : RdS (W.setCell ⟨g, 2, none⟩ (.bool true)) g b n cap zs none := by
  obtain ⟨k, h1, h2, h3⟩ := h.pos
  refine ⟨⟨k, h1, ?_, fun r e => by cases e⟩, turn_bs (turn_set W g 2 _) h.bs (fun j hj b' off e => by simp at e; rw [hj, ← e.1]; exact h.ne), h.ne, h.small⟩
  simpa using h2.set 2 (.bool true)
theorem RdS.go {W : World} {g b n cap : Nat} {zs r : List Int} {k s : Nat} (h : RdS W g b n cap zs (some r)) (hk : Blk W g #[.slice (some ⟨b, 0, none⟩) n cap, .int .i64 k, .bool false] 120) (hr : r = zs.drop k) (hs : k + s ≤ n) (v : Value) (hv : v = .int .i64 ((k + s : Nat) : Int)) : RdS (W.setCell ⟨g, 1, none⟩ v) g b n cap zs (some (r.drop s)) := by
  refine ⟨⟨k + s, hs, ?_, fun r' e => by simp at e; rw [← e, hr, List.drop_drop]⟩, turn_bs (turn_set W g 1 _) h.bs (fun j hj b' off e => by simp at e; rw [hj, ← e.1]; exact h.ne), h.ne, h.small⟩
  subst hv
  simpa using hk.set 1 (.int .i64 ((k + s : Nat) : Int))

theorem RdS.drewN {W : World} {g b n cap : Nat} {zs : List Int} {st : Option (List Int)} (h : RdS W g b n cap zs st) (m : Nat) : RdS (W.drewN m) g b n cap zs st := ⟨h.pos, h.bs, h.ne, h.small⟩
theorem RdS.drew {W : World} {g b n cap : Nat} {zs : List Int} {st : Option (List Int)} (h : RdS W g b n cap zs st) : RdS W.drew g b n cap zs st := ⟨h.pos, h.bs, h.ne, h.small⟩
theorem turn_dN {S : Nat → Prop} {a W : World} (h : Turn S a W) (n : Nat) : Turn S a (W.drewN n) := ⟨h.os, h.tape, h.output, h.size, h.block⟩
theorem turn_dr {S : Nat → Prop} {a W : World} (h : Turn S a W) : Turn S a W.drew := ⟨h.os, h.tape, h.output, h.size, h.block⟩

set_option maxHeartbeats 2000000 in
theorem num_rd (g b n cap : Nat) (zs : List Int) (st : Option (List Int)) (s : Nat) (w : World) (h : RdS w g b n cap zs st) (hs : s = 1 ∨ s = 2 ∨ s = 4) :
    Calls Try.prog 95 #[.pointer (some ⟨g, 0, none⟩), .int .i64 s] w fun e w' => e = .returned (.int .i64 (oN s st).1) ∧ RdS w' g b n cap zs (oN s st).2 ∧ Turn (fun j => j = g) w w' := by
  obtain ⟨k, hk, hb, hr⟩ := h.pos
  have hs4 : s ≤ 4 := by omega
  have hs1 : 1 ≤ s := by omega
  have hl := h.bs.1
  have hsm := h.small
  cases st with
  | none =>
    obtain ⟨q0, q1, q2, _⟩ := hb.three
    simp at q2
    have HH := hide h
    clear h hb hr hs
    go_enter Try.func95, Try.ntmps95
    go_wp2_with fail
    go_quiet (fail)
    have R1 := HH.out.drewN nq
    have T1 := turn_dN (Turn.refl (fun j => j = g) w) nq
    generalize w.drewN nq = W1 at *
    obtain ⟨k1, _, hb1, _⟩ := R1.pos
    have u2 := hb1.cell 2
    have f2 := hb1.frozen 2
    simp at u2
    have HF := hide (And.intro (RdS.short R1) (T1.trans (turn_set W1 g 2 (.bool true))))
    clear R1 T1 hb1 q0 q1 q2
    go_wp2
    go_ret
    exact ⟨rfl, HF.out.1, HF.out.2⟩
  | some r =>
    have hr' := hr r rfl
    have hrl : r.length = n - k := by rw [hr', List.length_drop, hl]
    obtain ⟨q0, q1, q2, _⟩ := hb.three
    simp at q2
    by_cases c : s ≤ r.length
    · rw [oN_some (pN_some c)]
      obtain ⟨m, hm⟩ : ∃ m, m = k + s := ⟨_, rfl⟩
      have hwr : IntKind.i64.wrap ((k : Int) + (s : Int)) = (m : Int) := by rw [hm]; push_cast; exact wraps62 _ (by omega) (by omega)
      have hcc : ¬ ((n : Int) < (m : Int)) := by omega
      have hks : k + s ≤ n := by omega
      have hcap := h.bs.2.2.2.2
      have HH := hide (And.intro h (And.intro hb hr'))
      have HLO := hide (show low (r.take s) = low ((zs.drop k).take s) by rw [hr'])
      have hw1 : IntKind.i64.wrap ((m : Int) - (s : Int)) = (k : Int) := by rw [hm]; push_cast; rw [show (k : Int) + s - s = k by omega]; exact wraps62 _ (by omega) (by omega)
      have hi1 : (k : Int) ≤ (m : Int) := by omega
      have hi2 : (m : Int) ≤ (cap : Int) := by omega
      have hz1 : ¬ cap = k := by omega
      have hz4 : m - k = s := by omega
      have HLOW := hide (fun (W : World) (hB : BS W (some ⟨b, 0, none⟩) n cap zs) => l1Low_any b k s (cap - k) ((zs.drop k).take s) W (by have := (hB.drop k hk).take s (by omega); rw [Nat.zero_add] at this; exact this) hs4)
      have HMK := hide hm
      clear h hb hr hs hr' hrl c hm
      go_enter Try.func95, Try.ntmps95
      go_wp2_with fail
      go_region_held3 (fun w' => w'.cell? ⟨g, 0, none⟩ = some (.slice (some ⟨b, 0, none⟩) n cap) ∧ w'.cell? ⟨g, 1, none⟩ = some (.int .i64 k) ∧ w'.cell? ⟨g, 2, none⟩ = some (.bool false)) (go_keep) (first | fail)
      obtain ⟨h, hb, hr'⟩ := HH.out
      have hb0 : Blk w.drew g #[.slice (some ⟨b, 0, none⟩) n cap, .int .i64 k, .bool false] 120 := hb
      have R1 := h.drew
      have T1 := turn_dr (Turn.refl (fun j => j = g) w)
      generalize w.drew = W1 at *
      clear q0 q1 q2
      obtain ⟨q0, q1, q2, _⟩ := hb0.three
      have f1 := hb0.frozen 1
      have R2 := R1.go hb0 hr' hks (.int .i64 (m : Int)) (by rw [HMK.out])
      have k2 := hb0.set 1 (.int .i64 (m : Int))
      have T2 := T1.trans (turn_set W1 g 1 (.int .i64 (m : Int)))
      simp at k2
      obtain ⟨u0, u1, u2, _⟩ := k2.three
      have hB := R2.bs
      have HF := hide (And.intro R2 T2)
      clear h hb hr' hb0 R1 T1 k2 R2 T2
      go_wp2_with fail
      go_region_held3 (fun w' => w'.cell? ⟨g, 0, none⟩ = some (.slice (some ⟨b, 0, none⟩) n cap) ∧ w'.cell? ⟨g, 1, none⟩ = some (.int .i64 (m : Int))) (go_keep) (first
        | (go_at_call 50; refine (HLOW.out _ (by first | exact hB | exact hB.below (Below.refl _ _).drew)).mono ?_; rintro e w9 ⟨rfl, rfl⟩))
      have HF2 := hide (And.intro HF.out.1.drew (turn_dr HF.out.2))
      have HL2 := hide HLO.out.symm
      clear HF HLO hB HLOW q0 q1 q2 u0 u1 u2 f1
      go_wp2
      go_ret
      exact ⟨ret_int HL2.out, HF2.out.1, HF2.out.2⟩
    · rw [oN_none (pN_none c)]
      have hwr : IntKind.i64.wrap ((k : Int) + (s : Int)) = (k : Int) + s := wraps62 _ (by omega) (by omega)
      have hcc : (n : Int) < (k : Int) + (s : Int) := by omega
      have HH := hide h
      clear h hb hr hs hr' hrl c
      go_enter Try.func95, Try.ntmps95
      go_wp2_with fail
      go_region_held3 (fun w' => w'.cell? ⟨g, 0, none⟩ = some (.slice (some ⟨b, 0, none⟩) n cap) ∧ w'.cell? ⟨g, 1, none⟩ = some (.int .i64 k) ∧ w'.cell? ⟨g, 2, none⟩ = some (.bool false)) (go_keep) (first | fail)
      have R1 := HH.out.drew
      have T1 := turn_dr (Turn.refl (fun j => j = g) w)
      generalize w.drew = W1 at *
      obtain ⟨k1, _, hb1, _⟩ := R1.pos
      have v2 := hb1.cell 2
      have f2 := hb1.frozen 2
      simp at v2
      have HF := hide (And.intro (RdS.short R1) (T1.trans (turn_set W1 g 2 (.bool true))))
      clear R1 T1 hb1 q0 q1 q2
      go_wp2
      go_ret
      exact ⟨rfl, HF.out.1, HF.out.2⟩
end Go.Proofs.Ytngdgogjlpjjpac

namespace Go.Proofs.Ytngdgogjlpjjpac
open Go.RowKit
set_option linter.unusedVariables false
set_option linter.unusedSimpArgs false
set_option maxRecDepth 100000

def oB (m : Nat) : Option (List Int) → List Int × Option (List Int)
  | none => ([], none)
  | some zs => match pB m zs with
    | none => ([], none)
    | some x => (x.1, some x.2)
theorem oB_some {m : Nat} {zs r x : List Int} (h : pB m zs = some (x, r)) : oB m (some zs) = (x, some r) := by show (match pB m zs with | none => _ | some x => _) = _; rw [h]
theorem oB_none {m : Nat} {zs : List Int} (h : pB m zs = none) : oB m (some zs) = ([], none) := by show (match pB m zs with | none => _ | some x => _) = _; rw [h]
theorem ob_new (w : World) (base : Nat) (hb : base ≤ w.heap.size) : OB (w.alloc (.cells #[] 5)) base (.slice (some ⟨w.heap.size, 0, none⟩) 0 0) [] :=
  ⟨⟨by simp, .inr ⟨w.heap.size, 0, #[], rfl, hb, heap_alloc_new w _, Nat.le_refl _, by unfold maxLen; omega, rfl, rfl⟩⟩, by simp⟩
def BySPost (w : World) (g b n cap : Nat) (zs : List Int) (p : List Int × Option (List Int)) (e : Ending) (w' : World) : Prop := ∃ a c, e = .returned (.slice a p.1.length c) ∧ OB w' w.heap.size (.slice a p.1.length c) p.1 ∧ RdS w' g b n cap zs p.2 ∧ Turn (fun j => j = g) w w'

set_option maxHeartbeats 2000000 in
theorem bytes_rd (g b n cap : Nat) (zs : List Int) (st : Option (List Int)) (s : Nat) (w : World) (h : RdS w g b n cap zs st) (hs : s ≤ 65535) :
    Calls Try.prog 96 #[.pointer (some ⟨g, 0, none⟩), .int .i64 s] w (BySPost w g b n cap zs (oB s st)) := by
  obtain ⟨k, hk, hb, hr⟩ := h.pos
  have hl := h.bs.1
  have hsm := h.small
  cases st with
  | none =>
    obtain ⟨q0, q1, q2, _⟩ := hb.three
    simp at q2
    have HH := hide h
    clear h hb hr
    go_enter Try.func96, Try.ntmps96
    go_wp2_with fail
    go_quiet (fail)
    have R1 := HH.out.drewN nq
    have T1 := turn_dN (Turn.refl (fun j => j = g) w) nq
    have hz : w.heap.size ≤ (w.drewN nq).heap.size := Nat.le_refl _
    generalize w.drewN nq = W1 at *
    obtain ⟨k1, _, hb1, _⟩ := R1.pos
    have u2 := hb1.cell 2
    have f2 := hb1.frozen 2
    simp at u2
    have HF := hide (And.intro (RdS.short R1) (T1.trans (turn_set W1 g 2 (.bool true))))
    have hs2 : w.heap.size ≤ (W1.setCell ⟨g, 2, none⟩ (.bool true)).heap.size := by rw [size_setCell]; exact hz
    have HO := hide (ob_new (W1.setCell ⟨g, 2, none⟩ (.bool true)) w.heap.size hs2)
    clear R1 T1 hb1 q0 q1 q2 hs2
    go_wp2
    go_ret
    refine ⟨_, _, rfl, ?_, HF.out.1.below ((Below.refl _ _).alloc (Nat.le_refl _) _), HF.out.2.trans (turn_alloc _ _)⟩
    have := HO.out
    simp only [size_setCell] at this ⊢
    exact this
  | some r =>
    have hr' := hr r rfl
    have hrl : r.length = n - k := by rw [hr', List.length_drop, hl]
    obtain ⟨q0, q1, q2, _⟩ := hb.three
    simp at q2
    by_cases c : s ≤ r.length
    · rw [oB_some (pB_some c)]
      obtain ⟨m, hm⟩ : ∃ m, m = k + s := ⟨_, rfl⟩
      have hwr : IntKind.i64.wrap ((k : Int) + (s : Int)) = (m : Int) := by rw [hm]; push_cast; exact wraps62 _ (by omega) (by omega)
      have hcc : ¬ ((n : Int) < (m : Int)) := by omega
      have hks : k + s ≤ n := by omega
      have hcap := h.bs.2.2.2.2
      have HH := hide (And.intro h (And.intro hb hr'))
      have HLO := hide (show r.take s = (zs.drop k).take s ∧ (r.take s).length = s by refine ⟨by rw [hr'], ?_⟩; rw [List.length_take]; omega)
      have hw1 : IntKind.i64.wrap ((m : Int) - (s : Int)) = (k : Int) := by rw [hm]; push_cast; rw [show (k : Int) + s - s = k by omega]; exact wraps62 _ (by omega) (by omega)
      have hi1 : (k : Int) ≤ (m : Int) := by omega
      have hi2 : (m : Int) ≤ (cap : Int) := by omega
      have hz4 : m - k = s := by omega
      have HMK := hide hm
      by_cases hz1 : cap = k
      · have hs0 : s = 0 := by omega
        subst hs0
        obtain rfl : m = k := by omega
        subst hz1
        have hw2 : IntKind.i64.wrap (cap : Int) = (cap : Int) := wraps62 _ (by omega) (by omega)
        have hi0 : (0 : Int) ≤ (cap : Int) := by omega
        clear hwr hw1 hi1 hi2 hz4
        have HLOW := hide (fun (W : World) (hB : BS W (some ⟨b, 0, none⟩) n cap zs) => l1Bytes_any b 0 0 0 [] W ⟨rfl, by unfold maxLen; omega, by simp, fun h => absurd rfl h, Nat.le_refl _⟩ (by omega))
        clear h hb hr hr' hrl c hm
        go_enter Try.func96, Try.ntmps96
        go_wp2_with fail
        go_region_held3 (fun w' => w'.cell? ⟨g, 0, none⟩ = some (.slice (some ⟨b, 0, none⟩) n cap) ∧ w'.cell? ⟨g, 1, none⟩ = some (.int .i64 (cap : Int)) ∧ w'.cell? ⟨g, 2, none⟩ = some (.bool false)) (go_keep) (first | fail)
        obtain ⟨h, hb, hr'⟩ := HH.out
        have hb0 : Blk w.drew g #[.slice (some ⟨b, 0, none⟩) n cap, .int .i64 (cap : Int), .bool false] 120 := hb
        have R1 := h.drew
        have T1 := turn_dr (Turn.refl (fun j => j = g) w)
        have hz : w.heap.size ≤ w.drew.heap.size := Nat.le_refl _
        generalize w.drew = W1 at *
        clear q0 q1 q2
        obtain ⟨q0, q1, q2, _⟩ := hb0.three
        have f1 := hb0.frozen 1
        have R2 := R1.go hb0 hr' hks (.int .i64 (cap : Int)) (by simp)
        have k2 := hb0.set 1 (.int .i64 (cap : Int))
        have T2 := T1.trans (turn_set W1 g 1 (.int .i64 (cap : Int)))
        simp at k2
        obtain ⟨u0, u1, u2, _⟩ := k2.three
        have hB := R2.bs
        have HF := hide (And.intro R2 (And.intro T2 k2))
        clear h hb hr' hb0 R1 T1 k2 R2 T2
        go_wp2_with fail
        go_region_held3 (fun w' => w'.cell? ⟨g, 0, none⟩ = some (.slice (some ⟨b, 0, none⟩) n cap) ∧ w'.cell? ⟨g, 1, none⟩ = some (.int .i64 (cap : Int))) (go_keep) (first
          | (go_at_call 108; refine (HLOW.out _ (by first | exact hB | exact hB.below (Below.refl _ _).drew)).mono ?_; rintro e w9 ⟨a9, c9, rfl, o9, hb9⟩; replace hb9 := undrew hb9; obtain ⟨u0, u1, u2, _⟩ := (HF.out.2.2.below hb9).three))
        have HF2 := hide (And.intro (o9.mono (show w.heap.size ≤ _ by simpa [size_setCell] using hz)) (And.intro (HF.out.1.below hb9) (HF.out.2.1.trans (turn_below hb9))))
        have HL2 := hide HLO.out
        clear HF HLO hB HLOW q0 q1 q2 u0 u1 u2 f1 o9 hb9
        go_wp2
        go_ret
        refine ⟨a9, c9, ?_, ?_, HF2.out.2.1, HF2.out.2.2⟩
        · rw [HL2.out.2]; rfl
        · dsimp only; rw [HL2.out.2, show List.take 0 r = [] from rfl]; exact HF2.out.1
      · have HLOW := hide (fun (W : World) (hB : BS W (some ⟨b, 0, none⟩) n cap zs) => l1Bytes_any b k s (cap - k) ((zs.drop k).take s) W (by have := (hB.drop k hk).take s (by omega); rw [Nat.zero_add] at this; exact this) (by omega))
        clear h hb hr hr' hrl c hm
        go_enter Try.func96, Try.ntmps96
        go_wp2_with fail
        go_region_held3 (fun w' => w'.cell? ⟨g, 0, none⟩ = some (.slice (some ⟨b, 0, none⟩) n cap) ∧ w'.cell? ⟨g, 1, none⟩ = some (.int .i64 k) ∧ w'.cell? ⟨g, 2, none⟩ = some (.bool false)) (go_keep) (first | fail)
        obtain ⟨h, hb, hr'⟩ := HH.out
        have hb0 : Blk w.drew g #[.slice (some ⟨b, 0, none⟩) n cap, .int .i64 k, .bool false] 120 := hb
        have R1 := h.drew
        have T1 := turn_dr (Turn.refl (fun j => j = g) w)
        have hz : w.heap.size ≤ w.drew.heap.size := Nat.le_refl _
        generalize w.drew = W1 at *
        clear q0 q1 q2
        obtain ⟨q0, q1, q2, _⟩ := hb0.three
        have f1 := hb0.frozen 1
        have R2 := R1.go hb0 hr' hks (.int .i64 (m : Int)) (by rw [HMK.out])
        have k2 := hb0.set 1 (.int .i64 (m : Int))
        have T2 := T1.trans (turn_set W1 g 1 (.int .i64 (m : Int)))
        simp at k2
        obtain ⟨u0, u1, u2, _⟩ := k2.three
        have hB := R2.bs
        have HF := hide (And.intro R2 (And.intro T2 k2))
        clear h hb hr' hb0 R1 T1 k2 R2 T2
        go_wp2_with fail
        go_region_held3 (fun w' => w'.cell? ⟨g, 0, none⟩ = some (.slice (some ⟨b, 0, none⟩) n cap) ∧ w'.cell? ⟨g, 1, none⟩ = some (.int .i64 (m : Int))) (go_keep) (first
          | (go_at_call 108; refine (HLOW.out _ (by first | exact hB | exact hB.below (Below.refl _ _).drew)).mono ?_; rintro e w9 ⟨a9, c9, rfl, o9, hb9⟩; replace hb9 := undrew hb9; obtain ⟨u0, u1, u2, _⟩ := (HF.out.2.2.below hb9).three))
        have HF2 := hide (And.intro (o9.mono (show w.heap.size ≤ _ by simpa [size_setCell] using hz)) (And.intro (HF.out.1.below hb9) (HF.out.2.1.trans (turn_below hb9))))
        have HL2 := hide HLO.out
        clear HF HLO hB HLOW q0 q1 q2 u0 u1 u2 f1 o9 hb9
        go_wp2
        go_ret
        refine ⟨a9, c9, ?_, ?_, HF2.out.2.1, HF2.out.2.2⟩
        · rw [HL2.out.2]; rfl
        · dsimp only; rw [HL2.out.2, HL2.out.1]; exact HF2.out.1
    · rw [oB_none (pB_none c)]
      have hwr : IntKind.i64.wrap ((k : Int) + (s : Int)) = (k : Int) + s := wraps62 _ (by omega) (by omega)
      have hcc : (n : Int) < (k : Int) + (s : Int) := by omega
      have HH := hide h
      clear h hb hr hr' hrl c
      go_enter Try.func96, Try.ntmps96
      go_wp2_with fail
      go_region_held3 (fun w' => w'.cell? ⟨g, 0, none⟩ = some (.slice (some ⟨b, 0, none⟩) n cap) ∧ w'.cell? ⟨g, 1, none⟩ = some (.int .i64 k) ∧ w'.cell? ⟨g, 2, none⟩ = some (.bool false)) (go_keep) (first | fail)
      have R1 := HH.out.drew
      have T1 := turn_dr (Turn.refl (fun j => j = g) w)
      have hz : w.heap.size ≤ w.drew.heap.size := Nat.le_refl _
      generalize w.drew = W1 at *
      obtain ⟨k1, _, hb1, _⟩ := R1.pos
      have v2 := hb1.cell 2
      have f2 := hb1.frozen 2
      simp at v2
      have HF := hide (And.intro (RdS.short R1) (T1.trans (turn_set W1 g 2 (.bool true))))
      have hs2 : w.heap.size ≤ (W1.setCell ⟨g, 2, none⟩ (.bool true)).heap.size := by rw [size_setCell]; exact hz
      have HO := hide (ob_new (W1.setCell ⟨g, 2, none⟩ (.bool true)) w.heap.size hs2)
      clear R1 T1 hb1 q0 q1 q2 hs2
      go_wp2
      go_ret
      refine ⟨_, _, rfl, ?_, HF.out.1.below ((Below.refl _ _).alloc (Nat.le_refl _) _), HF.out.2.trans (turn_alloc _ _)⟩
      have := HO.out
      simp only [size_setCell] at this ⊢
      exact this
end Go.Proofs.Ytngdgogjlpjjpac
