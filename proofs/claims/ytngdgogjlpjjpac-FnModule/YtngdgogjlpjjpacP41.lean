import Derived.Test.YtngdgogjlpjjpacP12
import Derived.Test.YtngdgogjlpjjpacP16
import Derived.Test.YtngdgogjlpjjpacP22
import Derived.Test.YtngdgogjlpjjpacP26
import Derived.Test.YtngdgogjlpjjpacP30
import Derived.Test.YtngdgogjlpjjpacP34
import Derived.Test.YtngdgogjlpjjpacP38
namespace Go.Proofs.Ytngdgogjlpjjpac
open Go.RowKit
set_option linter.unusedVariables false
set_option linter.unusedSimpArgs false
set_option maxRecDepth 100000
set_option maxHeartbeats 2000000 in
theorem sp6_1 (zs : List Int) (k : Nat) (K V : Int) (E1 : Hid (zs.getD k 0 = K)) (E2 : Hid (zs.getD (k + 1) 0 = V)) (z0 : 0 ≤ K) (z1 : K ≤ 255) (y0 : 0 ≤ V) (y1 : V ≤ 255) (P : PMod) (DP : DnR P) (c0 : K % 12 = 6) (c1 : V % 5 = 1) : SpFn zs k P { P with rz := P.rz ++ [0] } (k + 2) := by
  intro w W r a n c M D o ds
  have R0 := mr_spoil D o ds
  have hs0 := D.sz
  have hrl : P.rz.length ≤ 1 := by rcases DP.r with e | e <;> rw [e] <;> simp
  have hdl := DP.d.1
  clear D o ds
  go_enter Try.func122, Try.ntmps122
  go_wp2_with fail
  refine (R0.next K E1).mono ?_
  rintro e w1 ⟨rfl, R1⟩
  clear R0
  go_wp2_with fail
  refine (R1.next V E2).mono ?_
  rintro e w2 ⟨rfl, R2⟩
  clear R1 E1 E2
  obtain ⟨p0, q0⟩ := R2.two 5 (.slice M.a5 P.rz.length M.c5) rfl
  obtain ⟨p1, q1⟩ := (R2.below (al_below w2 (.cells #[.int .i64 2, .int .i64 0, .int .i64 ((P.dz.length : Int) - 4), .int .i64 ((P.dz.length : Int)), .int .i64 (-4)] 3))).two 5 (.slice M.a5 P.rz.length M.c5) rfl
  obtain ⟨p2, q2⟩ := ((R2.below (al_below w2 (.cells #[.int .i64 2, .int .i64 0, .int .i64 ((P.dz.length : Int) - 4), .int .i64 ((P.dz.length : Int)), .int .i64 (-4)] 3))).below (al_below (w2.alloc (.cells #[.int .i64 2, .int .i64 0, .int .i64 ((P.dz.length : Int) - 4), .int .i64 ((P.dz.length : Int)), .int .i64 (-4)] 3)) (.cells #[.int .i64 0] 3))).two 5 (.slice M.a5 P.rz.length M.c5) rfl
  have HM0 := hide ((R2.drew.below (al_below w2.drew (.cells #[.int .i64 2, .int .i64 0, .int .i64 ((P.dz.length : Int) - 4), .int .i64 ((P.dz.length : Int)), .int .i64 (-4)] 3))).below (al_below (w2.drew.alloc (.cells #[.int .i64 2, .int .i64 0, .int .i64 ((P.dz.length : Int) - 4), .int .i64 ((P.dz.length : Int)), .int .i64 (-4)] 3)) (.cells #[.int .i64 0] 3)))
  have HM1 := hide ((R2.below (al_below w2 (.cells #[.int .i64 2, .int .i64 0, .int .i64 ((P.dz.length : Int) - 4), .int .i64 ((P.dz.length : Int)), .int .i64 (-4)] 3))).drew.below (al_below (w2.alloc (.cells #[.int .i64 2, .int .i64 0, .int .i64 ((P.dz.length : Int) - 4), .int .i64 ((P.dz.length : Int)), .int .i64 (-4)] 3)).drew (.cells #[.int .i64 0] 3)))
  have HM2 := hide ((R2.below (al_below w2 (.cells #[.int .i64 2, .int .i64 0, .int .i64 ((P.dz.length : Int) - 4), .int .i64 ((P.dz.length : Int)), .int .i64 (-4)] 3))).below (al_below (w2.alloc (.cells #[.int .i64 2, .int .i64 0, .int .i64 ((P.dz.length : Int) - 4), .int .i64 ((P.dz.length : Int)), .int .i64 (-4)] 3)) (.cells #[.int .i64 0] 3))).drew
  have HM3 := hide ((R2.below (al_below w2 (.cells #[.int .i64 2, .int .i64 0, .int .i64 ((P.dz.length : Int) - 4), .int .i64 ((P.dz.length : Int)), .int .i64 (-4)] 3))).below (al_below (w2.alloc (.cells #[.int .i64 2, .int .i64 0, .int .i64 ((P.dz.length : Int) - 4), .int .i64 ((P.dz.length : Int)), .int .i64 (-4)] 3)) (.cells #[.int .i64 0] 3)))
  have HO0 := hide HM0.out.m.o.r
  have hS0 := HM0.out.m.d.sz
  have HO1 := hide HM1.out.m.o.r
  have hS1 := HM1.out.m.d.sz
  have HO2 := hide HM2.out.m.o.r
  have hS2 := HM2.out.m.d.sz
  have HO3 := hide HM3.out.m.o.r
  have hS3 := HM3.out.m.d.sz
  have HN0 := hide (cells_at (w2.drew.alloc (.cells #[.int .i64 2, .int .i64 0, .int .i64 ((P.dz.length : Int) - 4), .int .i64 ((P.dz.length : Int)), .int .i64 (-4)] 3)) (w2.heap.size + 1) _ 3 (clI (0)) rfl (by simp [drw_sz]))
  have HN1 := hide (cells_at (w2.alloc (.cells #[.int .i64 2, .int .i64 0, .int .i64 ((P.dz.length : Int) - 4), .int .i64 ((P.dz.length : Int)), .int .i64 (-4)] 3)).drew (w2.heap.size + 1) _ 3 (clI (0)) rfl (by simp [drw_sz]))
  have HN2 := hide (cells_at (w2.alloc (.cells #[.int .i64 2, .int .i64 0, .int .i64 ((P.dz.length : Int) - 4), .int .i64 ((P.dz.length : Int)), .int .i64 (-4)] 3)) (w2.heap.size + 1) _ 3 (clI (0)) rfl (by simp [drw_sz]))
  have HN3 := hide (cells_at (w2.alloc (.cells #[.int .i64 2, .int .i64 0, .int .i64 ((P.dz.length : Int) - 4), .int .i64 ((P.dz.length : Int)), .int .i64 (-4)] 3)) (w2.heap.size + 1) _ 3 (clI (0)) rfl (by simp [drw_sz]))
  have ct : V.tmod 5 = 1 := by rw [Int.tmod_eq_emod_of_nonneg y0]; exact c1
  have ew : IntKind.i64.wrap ((P.dz.length : Int) - 4) = (P.dz.length : Int) - 4 := wrap_small _ (by omega) (by omega)
  obtain ⟨pd, qd⟩ := R2.two 3 (.slice M.a3 P.dz.length M.c3) rfl
  obtain ⟨iI, hiI, hz0iI, hz1iI, hz2iI⟩ := info_parts infoI
  have HR2 := hide R2
  clear R2
  go_wp2_with fail
  go_region_law (first
    | (refine step_append_lies _ rfl _ _ 46 rfl w.heap.size 3 iI (.int .i64 0) 1 8 Try.underlying46 hiI hz0iI hz1iI hz2iI rfl (by decide) (.slice M.a5 P.rz.length M.c5) P.rz.length (P.rz.flatMap clI) rfl (by first | exact HO0.out | exact HO1.out | exact HO2.out | exact HO3.out) ⟨w2.heap.size + 1, 0, none⟩ 1 1 (clI (0)) rfl rfl (by first | exact HN0.out | exact HN1.out | exact HN2.out | exact HN3.out) (by intro u hu; simp [clI, clT, clX] at hu; first | (subst hu; rfl) | (rcases hu with rfl | rfl | rfl <;> rfl)) (by decide) (by unfold maxLen; omega) (by omega) (by first | exact hS0 | exact hS1 | exact hS2 | exact hS3) _ rfl ?_; intro g4 c4 w5 hown hgr hat hlt4; obtain ⟨p9, q9⟩ := (show _ ∧ _ from (by first | exact HM0.out.cell4 HO0.out hgr (by decide) 5 (u := .slice M.a5 P.rz.length M.c5) rfl | exact HM1.out.cell4 HO1.out hgr (by decide) 5 (u := .slice M.a5 P.rz.length M.c5) rfl | exact HM2.out.cell4 HO2.out hgr (by decide) 5 (u := .slice M.a5 P.rz.length M.c5) rfl | exact HM3.out.cell4 HO3.out hgr (by decide) 5 (u := .slice M.a5 P.rz.length M.c5) rfl))))
  all_goals
    have HF := hide (show MR w (w5.setCell ⟨W.heap.size, 5, none⟩ (.slice (some ⟨g4, 0, none⟩) (P.rz.length + 1) c4)) r a n c zs (k + 1 + 1) W.heap.size (W.heap.size + 1) _ _ from (by first | exact MR.reloc (x := 0) HM0.out hown hgr hat | exact MR.reloc (x := 0) HM1.out hown hgr hat | exact MR.reloc (x := 0) HM2.out hown hgr hat | exact MR.reloc (x := 0) HM3.out hown hgr hat))
    clear HM0 HO0 HN0 hS0 HM1 HO1 HN1 hS1 HM2 HO2 HN2 hS2 HM3 HO3 HN3 hS3 hown hgr hat hlt4 p9 q9 p0 q0 p1 q1 p2 q2 HR2
    generalize w5.setCell ⟨W.heap.size, 5, none⟩ (.slice (some ⟨g4, 0, none⟩) (P.rz.length + 1) c4) = W5 at *
    obtain ⟨b0, b1, b2, b3, b4, b5, b6, b7⟩ := HF.out.m.box.eight'
    obtain ⟨f0, f1, f2, f3, f4, f5, f6, f7⟩ := HF.out.m.box.froz
    obtain ⟨r0, r1, r2, r3, r4, r5, r6, r7⟩ := z8_cells HF.out.res
    obtain ⟨s0, s1, s2, s3, s4, s5, s6, s7⟩ := HF.out.res.froz
    go_wp2
    refine spl_end HF.out.res rfl _ _ _ _ _ _ _ _ _ _ rfl ?_
    exact spl_fin HF.out _ _ _ _ _ _ _ _ (by simp [modV])
structure RdS (W : World) (g b n cap : Nat) (zs : List Int) (st : Option (List Int)) : Prop where
  pos : ∃ k, k ≤ n ∧ Blk W g #[.slice (some ⟨b, 0, none⟩) n cap, .int .i64 k, .bool st.isNone] 120 ∧ ∀ r, st = some r → r = zs.drop k
  bs : BS W (some ⟨b, 0, none⟩) n cap zs
  ne : b ≠ g
  small : n ≤ 1048576
theorem RdS.below {W W' : World} {g b n cap : Nat} {zs : List Int} {st : Option (List Int)} (h : RdS W g b n cap zs st) (hb : Below W.heap.size W W') : RdS W' g b n cap zs st := by
  obtain ⟨k, h1, h2, h3⟩ := h.pos
  exact ⟨⟨k, h1, h2.below hb, h3⟩, h.bs.below hb, h.ne, h.small⟩
theorem RdS.turn {S : Nat → Prop} {W W' : World} {g b n cap : Nat} {zs : List Int} {st : Option (List Int)} (h : RdS W g b n cap zs st) (t : Turn S W W') (hg : ¬ S g) (hb : ¬ S b) : RdS W' g b n cap zs st := by
  obtain ⟨k', p1, p3, p4⟩ := h.pos
  exact ⟨⟨k', p1, turn_blk t p3 hg, p4⟩, turn_bs t h.bs (fun j hj b' off e => by simp at e; intro e'; apply hb; rw [e.1, e']; exact hj), h.ne, h.small⟩
theorem RdS.range {W : World} {g b n cap : Nat} {zs r : List Int} (h : RdS W g b n cap zs (some r)) : Byt r := by
  obtain ⟨k, h1, h2, h3⟩ := h.pos
  rw [h3 r rfl]
  exact fun z hz => h.bs.2.2.1 z (List.mem_of_mem_drop hz)
theorem RdS.go {W : World} {g b n cap : Nat} {zs r : List Int} {k s : Nat} (h : RdS W g b n cap zs (some r)) (hk : Blk W g #[.slice (some ⟨b, 0, none⟩) n cap, .int .i64 k, .bool false] 120) (hr : r = zs.drop k) (hs : k + s ≤ n) (v : Value) (hv : v = .int .i64 ((k + s : Nat) : Int)) : RdS (W.setCell ⟨g, 1, none⟩ v) g b n cap zs (some (r.drop s)) := by
  refine ⟨⟨k + s, hs, ?_, fun r' e => by simp at e; rw [← e, hr, List.drop_drop]⟩, turn_bs (turn_set W g 1 _) h.bs (fun j hj b' off e => by simp at e; rw [hj, ← e.1]; exact h.ne), h.ne, h.small⟩
  subst hv
  simpa using hk.set 1 (.int .i64 ((k + s : Nat) : Int))
theorem RdS.drew {W : World} {g b n cap : Nat} {zs : List Int} {st : Option (List Int)} (h : RdS W g b n cap zs st) : RdS W.drew g b n cap zs st := ⟨h.pos, h.bs, h.ne, h.small⟩
structure Lf {α : Type} (p : List Int → Option (α × List Int)) (st : Option (List Int)) (x : α) (st' : Option (List Int)) : Prop where
  n : st = none → st' = none
  f : ∀ zs, st = some zs → p zs = none → st' = none
  s : ∀ zs y r, st = some zs → p zs = some (y, r) → x = y ∧ st' = some r
theorem Lf.text {st s1 s2 : Option (List Int)} {x : Int} {y : List Int} (h1 : Lf (pN 1) st x s1) (h2 : Lf (pB x.toNat) s1 y s2) : Lf pT st (strOf y) s2 := by
  refine ⟨fun h => h2.n (h1.n h), fun zs h hp => ?_, fun zs z r h hp => ?_⟩
  · unfold pT at hp
    cases e : pN 1 zs with
    | none => exact h2.n (h1.f zs h e)
    | some v =>
      obtain ⟨v, r1⟩ := v
      obtain ⟨rfl, rfl⟩ := h1.s zs v r1 h e
      rw [e] at hp
      simp at hp
      exact h2.f r1 rfl hp
  · unfold pT at hp
    cases e : pN 1 zs with
    | none => rw [e] at hp; simp at hp
    | some v =>
      obtain ⟨v, r1⟩ := v
      obtain ⟨rfl, rfl⟩ := h1.s zs v r1 h e
      rw [e] at hp
      simp at hp
      obtain ⟨u, hu, rfl⟩ := hp
      obtain ⟨rfl, rfl⟩ := h2.s r1 u r rfl hu
      exact ⟨rfl, rfl⟩
theorem RdS.lts {W : World} {g b n cap : Nat} {zs : List Int} {st : Option (List Int)} (h : RdS W g b n cap zs st) : g < W.heap.size ∧ (n ≠ 0 → b < W.heap.size) := by
  refine ⟨by obtain ⟨_, _, hb, _⟩ := h.pos; exact hb.lt, fun hn => ?_⟩
  obtain ⟨_, _, _, h4, _⟩ := h.bs
  obtain ⟨b', off, e, hc⟩ := h4 hn
  simp at e
  have := World.block_lt_of_cell? W _ (hc 0 (by omega))
  simpa [e.1] using this
theorem RdS.grown {W W' : World} {g b n cap base : Nat} {zs : List Int} {st : Option (List Int)} {row : Option Nat} (h : RdS W g b n cap zs st) (hg : W.grownBy W' row) (hr : ∀ k, row = some k → base ≤ k) (h1 : g < base) (h2 : n ≠ 0 → b < base) : RdS W' g b n cap zs st := by
  obtain ⟨k, p1, p3, p4⟩ := h.pos
  have t : Turn (fun j => row = some j) W W' := ⟨hg.os, hg.tape, hg.output, hg.size, fun j hj hs => hg.block j hj (fun e => hs e.symm)⟩
  refine ⟨⟨k, p1, turn_blk t p3 (fun e => by have := hr g e; omega), p4⟩, ?_, h.ne, h.small⟩
  by_cases hn : n = 0
  · subst hn
    obtain ⟨b1, b2, b3, b4, b5⟩ := h.bs
    exact ⟨b1, b2, b3, fun e => absurd rfl e, b5⟩
  · exact turn_bs t h.bs (fun j hj b' off e => by simp at e; have := hr j hj; have := h2 hn; omega)
structure Lm {α : Type} (p : List Int → Option (α × List Int)) (m k : Nat) (s1 : Option (List Int)) (xs : List α) (st : Option (List Int)) : Prop where
  n : s1 = none → st = none
  f : ∀ r1, s1 = some r1 → st = none → ∃ j, j ≤ m ∧ pM p j r1 = none
  s : ∀ r1 r, s1 = some r1 → st = some r → pM p k r1 = some (xs, r)
theorem Lm.step {α : Type} {p : List Int → Option (α × List Int)} {m k : Nat} {s1 : Option (List Int)} {xs : List α} {r : List Int} {x : α} {st' : Option (List Int)} (h : Lm p m k s1 xs (some r)) (hk : k < m) (l : Lf p (some r) x st') : Lm p m (k + 1) s1 (xs ++ [x]) st' := by
  refine ⟨fun e => (by have := h.n e; cases this), fun r1 e e' => ⟨k + 1, by omega, ?_⟩, fun r1 r2 e e' => ?_⟩
  · have hs := pM_succ (h.s r1 r e rfl)
    cases hp : p r with
    | none => rw [hs, hp]; rfl
    | some y =>
      obtain ⟨y, r3⟩ := y
      have := (l.s r y r3 rfl hp).2
      rw [e'] at this
      cases this
  · have hs := pM_succ (h.s r1 r e rfl)
    cases hp : p r with
    | none =>
      have := l.f r rfl hp
      rw [e'] at this
      cases this
    | some y =>
      obtain ⟨y, r3⟩ := y
      obtain ⟨e1, e2⟩ := l.s r y r3 rfl hp
      rw [e'] at e2
      cases e2
      rw [hs, hp, e1]
      rfl
theorem Lm.done {α : Type} {p : List Int → Option (α × List Int)} {m k : Nat} {s1 : Option (List Int)} {xs : List α} {st' : Option (List Int)} (h : Lm p m k s1 xs st') (he : k = m ∨ st' = none) (hkm : k ≤ m) : Lf (pM p m) s1 xs st' := by
  refine ⟨h.n, fun r1 e hp => ?_, fun r1 y r e hp => ?_⟩
  · cases st' with
    | none => rfl
    | some r =>
      rcases he with rfl | he
      · have := h.s r1 r e rfl
        rw [hp] at this
        cases this
      · cases he
  · cases st' with
    | none =>
      obtain ⟨j, hj, hn⟩ := h.f r1 e rfl
      have := pM_none hn (m - j)
      rw [show j + (m - j) = m by omega, hp] at this
      cases this
    | some r' =>
      rcases he with rfl | he
      · have := h.s r1 r' e rfl
        rw [hp] at this
        cases this
        exact ⟨rfl, rfl⟩
      · cases he
structure Ss (w W : World) (b n cap : Nat) (zs : List Int) (st : Option (List Int)) (cs : Array Value) : Prop where
  rd : RdS W (w.heap.size + 2) b n cap zs st
  be : Below w.heap.size w W
  k0 : Blk W w.heap.size z8 56
  k1 : Blk W (w.heap.size + 1) z8 56
  k2 : Blk W (w.heap.size + 3) cs 56
  lo : b < w.heap.size
theorem Ss.call {w W W' : World} {b n cap : Nat} {zs : List Int} {st st' : Option (List Int)} {cs : Array Value} (h : Ss w W b n cap zs st cs) (T : Turn (fun j => j = w.heap.size + 2) W W') (R : RdS W' (w.heap.size + 2) b n cap zs st') : Ss w W' b n cap zs st' cs :=
  ⟨R, below_turn h.be T (fun k hk => by omega) h.be.size, turn_blk T h.k0 (by omega), turn_blk T h.k1 (by omega), turn_blk T h.k2 (by omega), h.lo⟩
theorem Ss.set {w W : World} {b n cap : Nat} {zs : List Int} {st : Option (List Int)} {cs : Array Value} (h : Ss w W b n cap zs st cs) (i : Nat) (v : Value) : Ss w (W.setCell ⟨w.heap.size + 3, i, none⟩ v) b n cap zs st (cs.setIfInBounds i v) :=
  ⟨h.rd.turn (turn_set W (w.heap.size + 3) i v) (by omega) (by have := h.lo; omega), below_turn h.be (turn_set W (w.heap.size + 3) i v) (fun k hk => by omega) h.be.size, h.k0.other _ _ (by show w.heap.size ≠ w.heap.size + 3; omega), h.k1.other _ _ (by show w.heap.size + 1 ≠ w.heap.size + 3; omega), h.k2.set i v, h.lo⟩
theorem Ss.below {w W W' : World} {b n cap : Nat} {zs : List Int} {st : Option (List Int)} {cs : Array Value} (h : Ss w W b n cap zs st cs) (hb : Below W.heap.size W W') : Ss w W' b n cap zs st cs :=
  ⟨h.rd.below hb, h.be.trans (hb.mono h.be.size), h.k0.below hb, h.k1.below hb, h.k2.below hb, h.lo⟩
theorem Ss.sz {w W : World} {b n cap : Nat} {zs : List Int} {st : Option (List Int)} {cs : Array Value} (h : Ss w W b n cap zs st cs) : w.heap.size + 4 ≤ W.heap.size := h.k2.lt
theorem Ss.grown {w W W' : World} {b n cap base : Nat} {zs : List Int} {st : Option (List Int)} {cs : Array Value} {row : Option Nat} (h : Ss w W b n cap zs st cs) (hg : W.grownBy W' row) (hr : ∀ k, row = some k → base ≤ k) (hb : w.heap.size + 4 ≤ base) : Ss w W' b n cap zs st cs := by
  have t : Turn (fun j => row = some j) W W' := ⟨hg.os, hg.tape, hg.output, hg.size, fun j hj hs => hg.block j hj (fun e => hs e.symm)⟩
  have hlo := h.lo
  have hsz := h.sz
  exact ⟨h.rd.grown hg hr (by omega) (fun _ => by omega), below_turn h.be t (fun k hk => by have := hr k hk; omega) h.be.size, turn_blk t h.k0 (fun e => by have := hr _ e; omega), turn_blk t h.k1 (fun e => by have := hr _ e; omega), turn_blk t h.k2 (fun e => by have := hr _ e; omega), h.lo⟩
theorem mark_of {zs : List Int} (hz : Byt zs) : mark zs = true ↔ 2 ≤ zs.length ∧ zs.getD 0 0 = 88 ∧ zs.getD 1 0 = 77 := by
  unfold mark
  by_cases h2 : 2 ≤ zs.length
  · rw [decide_eq_true h2, Bool.true_and, decide_eq_true_iff, take2 zs h2]
    have z0 : 0 ≤ zs.getD 0 0 ∧ zs.getD 0 0 ≤ 255 := hz _ (by simp [List.getD_eq_getElem?_getD, show 0 < zs.length by omega])
    have z1 : 0 ≤ zs.getD 1 0 ∧ zs.getD 1 0 ≤ 255 := hz _ (by simp [List.getD_eq_getElem?_getD, show 1 < zs.length by omega])
    generalize zs.getD 0 0 = x at *
    generalize zs.getD 1 0 = y at *
    have key : ∀ (x : Int) (c : Nat), 0 ≤ x ∧ x ≤ 255 → c ≤ 255 → (UInt8.ofNat x.toNat = UInt8.ofNat c ↔ x = (c : Int)) := fun x c hx hc => by
      constructor
      · intro e
        have e1 : (UInt8.ofNat x.toNat).toNat = x.toNat % 256 := UInt8.toNat_ofNat'
        have e2 : (UInt8.ofNat c).toNat = c % 256 := UInt8.toNat_ofNat'
        rw [e] at e1
        omega
      · intro e
        rw [e, Int.toNat_natCast]
    constructor
    · intro e
      have e' : #[UInt8.ofNat x.toNat, UInt8.ofNat y.toNat] = #[88, 77] := congrArg ByteArray.data e
      simp at e'
      exact ⟨h2, (key x 88 z0 (by omega)).1 e'.1, (key y 77 z1 (by omega)).1 e'.2⟩
    · rintro ⟨_, rfl, rfl⟩
      rfl
  · rw [decide_eq_false h2]
    simp [h2]
def Und {α : Type} (p : List Int → Option (α × List Int)) (e : α → List Int) (D : α → Prop) : Prop := ∀ x r, D x → p (e x ++ r) = some (x, r)
def s124 (s : Nat) : Prop := s = 1 ∨ s = 2 ∨ s = 4
theorem low_encN {s : Nat} (hs : s124 s) {v : Int} (h0 : 0 ≤ v) (h1 : v < (256:Int)^s) : low (encN v s) = v := by
  rcases hs with rfl | rfl | rfl
  · have h1' : v < 256 := h1
    show low [v / (256:Int)^0 % 256] = v
    simp only [low, show (256:Int)^0 = 1 from rfl]
    omega
  · have h1' : v < 65536 := h1
    show low [v / (256:Int)^0 % 256, v / (256:Int)^1 % 256] = v
    simp only [low, show (256:Int)^0 = 1 from rfl, show (256:Int)^1 = 256 from rfl]
    omega
  · have h1' : v < 4294967296 := h1
    show low [v / (256:Int)^0 % 256, v / (256:Int)^1 % 256, v / (256:Int)^2 % 256, v / (256:Int)^3 % 256] = v
    simp only [low, show (256:Int)^0 = 1 from rfl, show (256:Int)^1 = 256 from rfl, show (256:Int)^2 = 65536 from rfl, show (256:Int)^3 = 16777216 from rfl]
    omega
theorem und_N {s : Nat} (hs : s124 s) : Und (pN s) (fun v => encN v s) (fun v => 0 ≤ v ∧ v < (256:Int)^s) := fun x r h => by
  show pN s (encN x s ++ r) = _
  rw [pN_some (by simp [encN_len]), List.take_left' (encN_len x s), List.drop_left' (encN_len x s), low_encN hs h.1 h.2]
theorem und_B (n : Nat) : Und (pB n) (fun x => x) (fun x => x.length = n) := fun x r h => by
  show pB n (x ++ r) = _
  rw [pB_some (by simp; omega), List.take_left' h, List.drop_left' h]
theorem strOf_strB (s : ByteArray) : strOf (strB s) = s := by
  obtain ⟨⟨l⟩⟩ := s
  unfold strOf strB
  simp only [List.map_map]
  have : l.map ((fun z : Int => UInt8.ofNat z.toNat) ∘ fun b : UInt8 => (b.toNat : Int)) = l := by
    conv => rhs; rw [← List.map_id l]
    exact List.map_congr_left (fun b _ => by simp)
  rw [this]
theorem und_T : Und pT encT (fun s => s.size ≤ 255) := fun s r h => by
  unfold pT encT
  rw [List.append_assoc, und_N (Or.inl rfl) (s.size : Int) (strB s ++ r) ⟨by omega, by show (s.size : Int) < 256; omega⟩]
  simp only [Option.bind_some]
  rw [Int.toNat_natCast, und_B s.size (strB s) r (strB_len s)]
  simp only [Option.map_some, strOf_strB]
theorem und_M {α : Type} {p : List Int → Option (α × List Int)} {e : α → List Int} {D : α → Prop} (h : Und p e D) (xs : List α) (hD : ∀ x ∈ xs, D x) : ∀ (k : Nat) (r : List Int), k ≤ xs.length → pM p k ((xs.take k).flatMap e ++ r) = some (xs.take k, r)
  | 0, r, _ => by simp [pM]
  | k + 1, r, hk => by
    have hk' : k < xs.length := by omega
    rw [List.take_succ_eq_append_getElem hk', List.flatMap_append, List.append_assoc, pM_succ (und_M h xs hD k _ (by omega))]
    simp only [List.flatMap_cons, List.flatMap_nil, List.append_nil]
    rw [h _ _ (hD _ (List.getElem_mem hk'))]
    rfl
theorem und_Ma {α : Type} {p : List Int → Option (α × List Int)} {e : α → List Int} {D : α → Prop} (h : Und p e D) (xs : List α) (hD : ∀ x ∈ xs, D x) (r : List Int) : pM p xs.length (xs.flatMap e ++ r) = some (xs, r) := by
  have := und_M h xs hD xs.length r (Nat.le_refl _)
  rwa [List.take_length] at this
theorem encW_all (s : Nat) (zs : List Int) : encW s zs zs.length = zs.flatMap fun z => encN z s := by
  unfold encW
  rw [List.take_length]
abbrev okW (z : Int) : Prop := 0 ≤ z ∧ z ≤ 4294967295
theorem und_L : Und pL encL (fun zs => zs.length ≤ 65535 ∧ ∀ z ∈ zs, okW z) := fun zs r h => by
  unfold pL encL
  rw [encW_all, List.append_assoc, und_N (Or.inr (Or.inl rfl)) (zs.length : Int) _ ⟨by omega, by show (zs.length : Int) < 65536; omega⟩]
  simp only [Option.bind_some]
  rw [Int.toNat_natCast]
  exact und_Ma (und_N (Or.inr (Or.inr rfl))) zs (fun z hz => ⟨(h.2 z hz).1, by show z < 4294967296; have := (h.2 z hz).2; omega⟩) r
def okX (x : Ex) : Prop := x.1.size ≤ 255 ∧ -1 ≤ x.2.1 ∧ x.2.1 ≤ 254 ∧ 0 ≤ x.2.2 ∧ x.2.2 ≤ 65535
theorem und_X : Und pX encX okX := fun x r h => by
  obtain ⟨s, b, a⟩ := x
  obtain ⟨h1, h2, h3, h4, h5⟩ := h
  dsimp only at h1 h2 h3 h4 h5
  unfold pX encX
  rw [List.append_assoc, List.append_assoc, und_T s _ h1]
  simp only [Option.bind_some]
  rw [und_N (Or.inl rfl) (b + 1) _ ⟨by omega, by show b + 1 < 256; omega⟩]
  simp only [Option.bind_some]
  rw [und_N (Or.inr (Or.inl rfl)) a r ⟨by omega, by show a < 65536; omega⟩]
  simp only [Option.map_some]
  rw [show b + 1 - 1 = b by omega]
def encQ (P : PMod) : List Int := encT P.nm ++ (encL P.tz ++ (encN P.bl.length 1 ++ (P.bl.flatMap encL ++ (encN P.dz.length 2 ++ (P.dz ++ (encN P.bss 2 ++ (encN P.rz.length 1 ++ (P.rz.flatMap (fun z => encN z 2) ++ (encN P.ss.length 1 ++ (P.ss.flatMap encT ++ (encN P.es.length 1 ++ P.es.flatMap encX)))))))))))
def encP (P : PMod) : List Int := encM P.nm P.tz P.bl.length (bkOf P.bl) P.dz.length P.dz P.bss P.rz.length P.rz P.ss.length P.ss P.es.length P.es
theorem encP_eq (P : PMod) : encP P = [88, 77] ++ encQ P := by
  have e1 : encBs (bkOf P.bl) P.bl.length = P.bl.flatMap encL := by
    unfold encBs bkOf
    rw [List.take_of_length_le (by simp), List.flatMap_map]
  unfold encP encM enc4 enc3 enc2 enc1 enc0 encQ encXs encTs
  rw [e1, encW_all, List.take_length, List.take_length]
  simp only [List.append_assoc]
structure Vp (P : PMod) : Prop where
  n : P.nm.size ≤ 12
  t : P.tz.length ≤ 200
  tw : ∀ z ∈ P.tz, okW z
  b : P.bl.length ≤ 4
  bw : ∀ l ∈ P.bl, l.length ≤ 64 ∧ ∀ z ∈ l, okW z
  d : P.dz.length ≤ 512
  s : 0 ≤ P.bss ∧ P.bss ≤ 512
  r : P.rz.length ≤ 16
  rw : ∀ z ∈ P.rz, 0 ≤ z ∧ z ≤ 512
  i : P.ss.length ≤ 16
  iw : ∀ s ∈ P.ss, s.size ≤ 25
  e : P.es.length ≤ 16
  ew : ∀ x ∈ P.es, x.1.size ≤ 12 ∧ -1 ≤ x.2.1 ∧ x.2.1 ≤ 4 ∧ 0 ≤ x.2.2 ∧ x.2.2 ≤ 200
theorem vp_of {P : PMod} (h : mdoP P = 0) : Vp P := by
  unfold mdoP at h
  have V := vm_of_mdo (by simp [bkOf]) h
  refine ⟨V.n, V.t, V.tw, V.b, fun l hl => ?_, V.d, V.s, V.r, fun z hz => ?_, V.i, fun s hs => ?_, V.e, fun x hx => ?_⟩
  · obtain ⟨i, hi, rfl⟩ := List.getElem_of_mem hl
    have := V.bw i (by simp [bkOf]; exact hi)
    simpa [bkOf, List.getD_eq_getElem?_getD, hi] using this
  · obtain ⟨i, hi, rfl⟩ := List.getElem_of_mem hz
    have := V.rw i hi
    simpa [List.getD_eq_getElem?_getD, hi] using this
  · obtain ⟨i, hi, rfl⟩ := List.getElem_of_mem hs
    have := V.iw i hi
    simpa [List.getD_eq_getElem?_getD, hi] using this
  · obtain ⟨i, hi, rfl⟩ := List.getElem_of_mem hx
    have := V.ew i hi
    simpa [List.getD_eq_getElem?_getD, hi] using this
theorem pMod_enc {P : PMod} (V : Vp P) (r : List Int) : pMod (encQ P ++ r) = some (P, r) := by
  obtain ⟨nm, tz, bl, dz, bss, rz, ss, es⟩ := P
  obtain ⟨v1, v2, v3, v4, v5, v6, v7, v8, v9, v10, v11, v12, v13⟩ := V
  dsimp only at v1 v2 v3 v4 v5 v6 v7 v8 v9 v10 v11 v12 v13
  unfold pMod encQ
  simp only [List.append_assoc]
  rw [und_T nm _ (by omega)]
  simp only [Option.bind_some]
  rw [und_L tz _ ⟨by omega, v3⟩]
  simp only [Option.bind_some]
  rw [und_N (Or.inl rfl) (bl.length : Int) _ ⟨by omega, by show (bl.length : Int) < 256; omega⟩]
  simp only [Option.bind_some, Int.toNat_natCast]
  rw [und_Ma und_L bl (fun l hl => ⟨by have := (v5 l hl).1; omega, (v5 l hl).2⟩)]
  simp only [Option.bind_some]
  rw [und_N (Or.inr (Or.inl rfl)) (dz.length : Int) _ ⟨by omega, by show (dz.length : Int) < 65536; omega⟩]
  simp only [Option.bind_some, Int.toNat_natCast]
  rw [und_B dz.length dz _ rfl]
  simp only [Option.bind_some]
  rw [und_N (Or.inr (Or.inl rfl)) bss _ ⟨by omega, by show bss < 65536; omega⟩]
  simp only [Option.bind_some]
  rw [und_N (Or.inl rfl) (rz.length : Int) _ ⟨by omega, by show (rz.length : Int) < 256; omega⟩]
  simp only [Option.bind_some, Int.toNat_natCast]
  rw [und_Ma (und_N (Or.inr (Or.inl rfl))) rz (fun z hz => ⟨(v9 z hz).1, by show z < 65536; have := (v9 z hz).2; omega⟩)]
  simp only [Option.bind_some]
  rw [und_N (Or.inl rfl) (ss.length : Int) _ ⟨by omega, by show (ss.length : Int) < 256; omega⟩]
  simp only [Option.bind_some, Int.toNat_natCast]
  rw [und_Ma und_T ss (fun s hs => by have := v11 s hs; omega)]
  simp only [Option.bind_some]
  rw [und_N (Or.inl rfl) (es.length : Int) _ ⟨by omega, by show (es.length : Int) < 256; omega⟩]
  simp only [Option.bind_some, Int.toNat_natCast]
  rw [und_Ma und_X es (fun x hx => by have := v13 x hx; unfold okX; omega)]
  rfl
theorem flen {α : Type} (e : α → List Int) (m : Nat) : ∀ (xs : List α), (∀ x ∈ xs, (e x).length ≤ m) → (xs.flatMap e).length ≤ xs.length * m
  | [], _ => by simp
  | x :: xs, h => by
    have h1 := h x (by simp)
    have h2 := flen e m xs (fun y hy => h y (by simp [hy]))
    simp only [List.flatMap_cons, List.length_append, List.length_cons]
    rw [Nat.add_mul]
    omega
theorem encQ_len {P : PMod} (V : Vp P) : (encQ P).length ≤ 4000 := by
  have h1 := flen encL 258 P.bl (fun l hl => by have := (V.bw l hl).1; rw [encL_len]; omega)
  have h2 := flen (fun z => encN z 2) 2 P.rz (fun z _ => by simp [encN_len])
  have h3 := flen encT 26 P.ss (fun s hs => by have := V.iw s hs; rw [encT_len]; omega)
  have h4 := flen encX 16 P.es (fun x hx => by have := (V.ew x hx).1; unfold encX; simp only [List.length_append, encT_len, encN_len]; omega)
  have v1 := V.n
  have v2 := V.t
  have v4 := V.b
  have v6 := V.d
  have v8 := V.r
  have v10 := V.i
  have v12 := V.e
  unfold encQ
  simp only [List.length_append, encT_len, encN_len, encL_len]
  omega
theorem encQ_byt {P : PMod} (hd : Byt P.dz) : Byt (encQ P) := by
  have hT : ∀ s, Byt (encT s) := fun s => app_range (encN_range _ _) (strB_range _)
  have hL : ∀ l, Byt (encL l) := fun l => app_range (encN_range _ _) (encW_range _ _ _)
  have hM : ∀ {α : Type} (e : α → List Int), (∀ x, Byt (e x)) → ∀ xs : List α, Byt (xs.flatMap e) := fun e he xs z hz => by
    rw [List.mem_flatMap] at hz
    obtain ⟨x, _, hx⟩ := hz
    exact he x z hx
  unfold encQ
  exact app_range (hT _) (app_range (hL _) (app_range (encN_range _ _) (app_range (hM _ hL _) (app_range (encN_range _ _) (app_range hd (app_range (encN_range _ _) (app_range (encN_range _ _) (app_range (hM _ (fun x => encN_range _ _) _) (app_range (encN_range _ _) (app_range (hM _ hT _) (app_range (encN_range _ _) (hM _ (fun x => app_range (hT _) (app_range (encN_range _ _) (encN_range _ _))) _))))))))))))
theorem encP_byt {P : PMod} (hd : Byt P.dz) : Byt (encP P) := by
  rw [encP_eq]
  exact app_range (fun z hz => by simp at hz; omega) (encQ_byt hd)
theorem prs_enc {P : PMod} (h : mdoP P = 0) (hd : Byt P.dz) : prs (encP P) = (0, some P) := by
  have V := vp_of h
  have hl := encQ_len V
  have hb := encP_byt hd
  have e := encP_eq P
  have hm : mark (encP P) = true := (mark_of hb).2 (by rw [e]; exact ⟨by simp, rfl, rfl⟩)
  have hp : pMod ((encP P).drop 2) = some (P, []) := by
    have := pMod_enc V []
    rw [List.append_nil] at this
    rw [e]
    exact this
  unfold prs
  rw [if_neg (by rw [e]; simp; omega), if_neg (by rw [hm]; decide), hp]
  dsimp only
  rw [if_neg (by simp), if_neg (by rw [h]; simp)]
theorem MO.md {W : World} {base : Nat} {P : PMod} {M : Ma} (h : MO W base P M) (R : DoR P) :
    MD W P.nm M.a1 P.tz.length M.c1 P.tz M.a2 M.bl.length M.c2 M.bl M.a3 P.dz.length M.c3 P.dz P.bss M.a5 P.rz.length M.c5 P.rz M.a6 P.ss.length M.c6 P.ss M.a7 P.es.length M.c7 P.es where
  n := by have := R.n; omega
  t := og_is h.t (fun z hz => by have := R.t.2 z hz; unfold wfi; omega)
  b := obk_bks h.b (fun B hB z hz => by
    have hm : B.2.2.2 ∈ P.bl := by rw [← h.bls]; exact List.mem_map.2 ⟨B, hB, rfl⟩
    have := (R.b.2 _ hm).2 z hz
    unfold wfi
    omega)
  d := h.d.bs
  s := by have := R.s; unfold wfi; omega
  r := og_is h.r (fun z hz => by have := R.r.2 z hz; unfold wfi; omega)
  i := og_ss h.i (fun s hs => by have := R.i.2 s hs; omega)
  e := og_es h.e (fun s hs => by have := (R.e.2 s hs).1; omega)
theorem MO.mdo' {W : World} {base : Nat} {P : PMod} {M : Ma} (h : MO W base P M) : mdo P.nm P.tz.length P.tz M.bl.length M.bl P.dz.length P.bss P.rz.length P.rz P.ss.length P.ss P.es.length P.es = mdoP P := ModO.mdo h
theorem encP_bl {P : PMod} {bl : List Bk} (h : bl.map (fun B => B.2.2.2) = P.bl) : encM P.nm P.tz bl.length bl P.dz.length P.dz P.bss P.rz.length P.rz P.ss.length P.ss P.es.length P.es = encP P := by
  have hl : bl.length = P.bl.length := by rw [← h, List.length_map]
  have e : encBs bl bl.length = encBs (bkOf P.bl) P.bl.length := by
    unfold encBs bkOf
    rw [List.take_length, List.take_of_length_le (by simp), List.flatMap_map, ← h, List.flatMap_map]
  unfold encP encM enc4 enc3 enc2
  rw [e, hl]
end Go.Proofs.Ytngdgogjlpjjpac
