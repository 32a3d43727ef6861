import Derived.Test.YtngdgogjlpjjpacJ35
namespace Go.Proofs.Ytngdgogjlpjjpac
open Go.RowKit
set_option linter.unusedVariables false
set_option linter.unusedSimpArgs false
set_option maxRecDepth 100000

/-- WHAT A READING OF THE DOCUMENT'S READER IS TO THE PARSER. -/
structure Lf {α : Type} (p : List Int → Option (α × List Int)) (st : Option (List Int)) (x : α) (st' : Option (List Int)) : Prop where
  n : st = none → st' = none
  f : ∀ zs, st = some zs → p zs = none → st' = none
  s : ∀ zs y r, st = some zs → p zs = some (y, r) → x = y ∧ st' = some r
theorem lf_N (s : Nat) (st : Option (List Int)) : Lf (pN s) st (oN s st).1 (oN s st).2 :=
  ⟨fun h => by subst h; rfl, fun zs h hp => by subst h; rw [oN_none hp], fun zs y r h hp => by subst h; rw [oN_some hp]; exact ⟨rfl, rfl⟩⟩
theorem lf_B (s : Nat) (st : Option (List Int)) : Lf (pB s) st (oB s st).1 (oB s st).2 :=
  ⟨fun h => by subst h; rfl, fun zs h hp => by subst h; rw [oB_none hp], fun zs y r h hp => by subst h; rw [oB_some hp]; exact ⟨rfl, rfl⟩⟩
theorem oN_range {W : World} {g b n cap : Nat} {zs : List Int} {st : Option (List Int)} (h : RdS W g b n cap zs st) (s : Nat) (hs : s ≤ 4) : 0 ≤ (oN s st).1 ∧ (oN s st).1 ≤ 4294967295 ∧ (s ≤ 2 → (oN s st).1 ≤ 65535) ∧ (s = 1 → (oN s st).1 ≤ 255) := by
  cases st with
  | none => exact ⟨by show (0:Int) ≤ 0; omega, by show (0:Int) ≤ _; omega, fun _ => by show (0:Int) ≤ _; omega, fun _ => by show (0:Int) ≤ _; omega⟩
  | some r =>
    cases e : pN s r with
    | none => rw [oN_none e]; exact ⟨by show (0:Int) ≤ 0; omega, by show (0:Int) ≤ _; omega, fun _ => by show (0:Int) ≤ _; omega, fun _ => by show (0:Int) ≤ _; omega⟩
    | some x =>
      obtain ⟨x, r'⟩ := x
      rw [oN_some e]
      have h1 := (gives_pN s hs r x r' h.range e).1
      exact ⟨h1.1, h1.2.1, h1.2.2, fun h2 => by subst h2; exact (gives_pN1 r x r' h.range e).1.2⟩
theorem Lf.text {st s1 s2 : Option (List Int)} {x : Int} {y : List Int} (h1 : Lf (pN 1) st x s1) (h2 : Lf (pB x.toNat) s1 y s2) : Lf pT st (strOf y) s2 := by
  refine ⟨fun h => h2.n (h1.n h), fun zs h hp => ?_, fun zs z r h hp => ?_⟩
  · unfold pT at hp
    cases e : pN 1 zs with
    | none => exact h2.n (h1.f zs h e)
    | some v =>
      obtain ⟨v, r1⟩ := v
      obtain ⟨rfl, rfl⟩ := h1.s zs v r1 h e
      rw [e] at hp
      simp at hp
      exact h2.f r1 rfl hp
  · unfold pT at hp
    cases e : pN 1 zs with
    | none => rw [e] at hp; simp at hp
    | some v =>
      obtain ⟨v, r1⟩ := v
      obtain ⟨rfl, rfl⟩ := h1.s zs v r1 h e
      rw [e] at hp
      simp at hp
      obtain ⟨u, hu, rfl⟩ := hp
      obtain ⟨rfl, rfl⟩ := h2.s r1 u r rfl hu
      exact ⟨rfl, rfl⟩
theorem oB_len {W : World} {g b n cap : Nat} {zs : List Int} {st : Option (List Int)} (h : RdS W g b n cap zs st) (m : Nat) : (oB m st).1.length ≤ m := by
  cases st with
  | none => show 0 ≤ m; omega
  | some r =>
    cases e : pB m r with
    | none => rw [oB_none e]; show 0 ≤ m; omega
    | some x =>
      obtain ⟨x, r'⟩ := x
      rw [oB_some e]
      have := (gives_pB m r x r' h.range e).1.1
      show x.length ≤ m
      omega
/-- what a reading of the document's reader gives -/
def RSP {α : Type} (w : World) (g b n cap : Nat) (zs : List Int) (R : α → Value → World → Prop) (p : List Int → Option (α × List Int)) (st : Option (List Int)) (e : Ending) (w' : World) : Prop :=
  ∃ x v st', e = .returned v ∧ R x v w' ∧ RdS w' g b n cap zs st' ∧ Turn (fun j => j = g) w w' ∧ Lf p st x st'

theorem run_text0 (w : World) (a : Option Addr) (c : Nat) : (convert 22 9 (.slice a 0 c)).run Try.prog w = .ok (.string (strOf [])) w := by
  rw [run_convert_bytes_string w 22 9 5 a 0 c Try.underlying22 Try.underlying5 Try.underlying9]
  cases a <;> simp [Conv.bytesToString, strOf] <;> rfl

set_option maxHeartbeats 1000000 in
theorem text_rs (g b n cap : Nat) (zs : List Int) (st : Option (List Int)) (w : World) (h : RdS w g b n cap zs st) :
    Calls Try.prog 93 #[.pointer (some ⟨g, 0, none⟩)] w (RSP w g b n cap zs (fun x v w => v = .string x ∧ x.size ≤ 255) pT st) := by
  have HN := hide (num_rd g b n cap zs st 1 w h (Or.inl rfl))
  have hx := oN_range h 1 (by omega)
  have HL1 := hide (lf_N 1 st)
  generalize oN 1 st = X at *
  obtain ⟨x, s1⟩ := X
  dsimp only at *
  obtain ⟨m, rfl⟩ : ∃ m : Nat, x = (m : Int) := ⟨x.toNat, by omega⟩
  have hm : m ≤ 255 := by have := hx.2.2.2 rfl; omega
  clear hx h
  go_enter Try.func93, Try.ntmps93
  go_wp2_with fail
  refine HN.out.mono ?_
  rintro e w1 ⟨rfl, R1, T1⟩
  have HB := hide (bytes_rd g b n cap zs s1 m w1 R1 (by omega))
  have hlen := oB_len R1 m
  have HL2 := hide (lf_B m s1)
  generalize oB m s1 = Y at *
  obtain ⟨y, s2⟩ := Y
  dsimp only at *
  clear R1 HN
  go_wp2_with fail
  refine HB.out.mono ?_
  rintro e w2 ⟨a, c, rfl, O2, R2, T2⟩
  dsimp only at O2 R2
  have HF := hide (And.intro R2 (T1.trans (T2.mono (fun j hj => hj))))
  have hsz : (strOf y).size ≤ 255 := by rw [strOf_size]; omega
  have HLT := hide (HL1.out.text (x := (m : Int)) (by rw [Int.toNat_natCast]; exact HL2.out))
  have HBB := hide O2.bs
  clear R2 T2 T1 HB HL1 HL2 O2
  have hcv : (convert 22 9 (.slice a y.length c)).run Try.prog w2 = .ok (.string (strOf y)) w2 := by
    by_cases hy : y.length = 0
    · obtain rfl : y = [] := List.eq_nil_of_length_eq_zero hy
      exact run_text0 w2 a c
    · obtain ⟨b', off, rfl, _⟩ := HBB.out.2.2.2.1 hy
      exact run_text w2 b' off c y HBB.out
  go_wp2
  go_ret
  exact ⟨_, _, s2, rfl, ⟨rfl, hsz⟩, HF.out.1, HF.out.2, HLT.out⟩
end Go.Proofs.Ytngdgogjlpjjpac

namespace Go.Proofs.Ytngdgogjlpjjpac
open Go.RowKit
set_option linter.unusedVariables false
set_option linter.unusedSimpArgs false
set_option maxRecDepth 100000

theorem RdS.lts {W : World} {g b n cap : Nat} {zs : List Int} {st : Option (List Int)} (h : RdS W g b n cap zs st) : g < W.heap.size ∧ (n ≠ 0 → b < W.heap.size) := by
  refine ⟨by obtain ⟨_, _, hb, _⟩ := h.pos; exact hb.lt, fun hn => ?_⟩
  obtain ⟨_, _, _, h4, _⟩ := h.bs
  obtain ⟨b', off, e, hc⟩ := h4 hn
  simp at e
  have := World.block_lt_of_cell? W _ (hc 0 (by omega))
  simpa [e.1] using this
theorem RdS.grown {W W' : World} {g b n cap base : Nat} {zs : List Int} {st : Option (List Int)} {row : Option Nat} (h : RdS W g b n cap zs st) (hg : W.grownBy W' row) (hr : ∀ k, row = some k → base ≤ k) (h1 : g < base) (h2 : n ≠ 0 → b < base) : RdS W' g b n cap zs st := by
  obtain ⟨k, p1, p3, p4⟩ := h.pos
  have t : Turn (fun j => row = some j) W W' := ⟨hg.os, hg.tape, hg.output, hg.size, fun j hj hs => hg.block j hj (fun e => hs e.symm)⟩
  refine ⟨⟨k, p1, turn_blk t p3 (fun e => by have := hr g e; omega), p4⟩, ?_, h.ne, h.small⟩
  by_cases hn : n = 0
  · subst hn
    obtain ⟨b1, b2, b3, b4, b5⟩ := h.bs
    exact ⟨b1, b2, b3, fun e => absurd rfl e, b5⟩
  · exact turn_bs t h.bs (fun j hj b' off e => by simp at e; have := hr j hj; have := h2 hn; omega)
/-- how far a list has been read -/
structure Lm {α : Type} (p : List Int → Option (α × List Int)) (m k : Nat) (s1 : Option (List Int)) (xs : List α) (st : Option (List Int)) : Prop where
  n : s1 = none → st = none
  f : ∀ r1, s1 = some r1 → st = none → ∃ j, j ≤ m ∧ pM p j r1 = none
  s : ∀ r1 r, s1 = some r1 → st = some r → pM p k r1 = some (xs, r)
theorem lm_zero {α : Type} (p : List Int → Option (α × List Int)) (m : Nat) (s1 : Option (List Int)) : Lm p m 0 s1 [] s1 :=
  ⟨fun h => h, fun r1 h h' => (by rw [h] at h'; cases h'), fun r1 r h h' => (by rw [h] at h'; cases h'; rfl)⟩
theorem Lm.step {α : Type} {p : List Int → Option (α × List Int)} {m k : Nat} {s1 : Option (List Int)} {xs : List α} {r : List Int} {x : α} {st' : Option (List Int)} (h : Lm p m k s1 xs (some r)) (hk : k < m) (l : Lf p (some r) x st') : Lm p m (k + 1) s1 (xs ++ [x]) st' := by
  refine ⟨fun e => (by have := h.n e; cases this), fun r1 e e' => ⟨k + 1, by omega, ?_⟩, fun r1 r2 e e' => ?_⟩
  · have hs := pM_succ (h.s r1 r e rfl)
    cases hp : p r with
    | none => rw [hs, hp]; rfl
    | some y =>
      obtain ⟨y, r3⟩ := y
      have := (l.s r y r3 rfl hp).2
      rw [e'] at this
      cases this
  · have hs := pM_succ (h.s r1 r e rfl)
    cases hp : p r with
    | none =>
      have := l.f r rfl hp
      rw [e'] at this
      cases this
    | some y =>
      obtain ⟨y, r3⟩ := y
      obtain ⟨e1, e2⟩ := l.s r y r3 rfl hp
      rw [e'] at e2
      cases e2
      rw [hs, hp, e1]
      rfl
/-- at the loop's end -/
theorem Lm.done {α : Type} {p : List Int → Option (α × List Int)} {m k : Nat} {s1 : Option (List Int)} {xs : List α} {st' : Option (List Int)} (h : Lm p m k s1 xs st') (he : k = m ∨ st' = none) (hkm : k ≤ m) : Lf (pM p m) s1 xs st' := by
  refine ⟨h.n, fun r1 e hp => ?_, fun r1 y r e hp => ?_⟩
  · cases st' with
    | none => rfl
    | some r =>
      rcases he with rfl | he
      · have := h.s r1 r e rfl
        rw [hp] at this
        cases this
      · cases he
  · cases st' with
    | none =>
      obtain ⟨j, hj, hn⟩ := h.f r1 e rfl
      have := pM_none hn (m - j)
      rw [show j + (m - j) = m by omega, hp] at this
      cases this
    | some r' =>
      rcases he with rfl | he
      · have := h.s r1 r' e rfl
        rw [hp] at this
        cases this
        exact ⟨rfl, rfl⟩
      · cases he
theorem Lf.bindM {α β : Type} {p : List Int → Option (α × List Int)} {st s1 s2 : Option (List Int)} {x : α} {y : β} {q : α → List Int → Option (β × List Int)} (h1 : Lf p st x s1) (h2 : Lf (q x) s1 y s2) : Lf (fun zs => (p zs).bind fun u => q u.1 u.2) st y s2 := by
  refine ⟨fun h => h2.n (h1.n h), fun zs h hp => ?_, fun zs z r h hp => ?_⟩
  · cases e : p zs with
    | none => exact h2.n (h1.f zs h e)
    | some v =>
      obtain ⟨v, r1⟩ := v
      obtain ⟨rfl, rfl⟩ := h1.s zs v r1 h e
      simp only [e] at hp
      exact h2.f r1 rfl hp
  · cases e : p zs with
    | none => simp only [e] at hp; simp at hp
    | some v =>
      obtain ⟨v, r1⟩ := v
      obtain ⟨rfl, rfl⟩ := h1.s zs v r1 h e
      simp only [e] at hp
      exact h2.s r1 z r rfl hp
theorem og_new {α : Type} (t : TypeId) (sz : Nat) (f : α → List Value) (w : World) (base : Nat) (hb : base ≤ w.heap.size) : OG t sz f (w.alloc (.cells #[] t)) base (.slice (some ⟨w.heap.size, 0, none⟩) 0 0) [] :=
  ⟨by simp, .inr ⟨w.heap.size, 0, #[], rfl, hb, heap_alloc_new w _, Nat.le_refl _, by unfold maxLen; omega, by simp, by simp⟩⟩

set_option maxHeartbeats 2000000 in
theorem words_rs (g b n cap : Nat) (zs : List Int) (st : Option (List Int)) (w : World) (h : RdS w g b n cap zs st) :
    Calls Try.prog 94 #[.pointer (some ⟨g, 0, none⟩)] w (RSP w g b n cap zs (fun x v w' => (∃ a c, v = .slice a x.length c) ∧ OG 3 1 clI w' w.heap.size v x ∧ (∀ z ∈ x, Wd z) ∧ x.length ≤ 65535) pL st) := by
  obtain ⟨i0, hi, hz0, hz1, hz2⟩ := info_parts infoI
  obtain ⟨hgl, hbl⟩ := h.lts
  have HBL := hide hbl
  have al : Below w.heap.size w (w.alloc (.cells #[] 3)) := (Below.refl _ _).alloc (Nat.le_refl _) _
  have h0 := h.below al
  have O0 := og_new 3 1 clI w w.heap.size (Nat.le_refl _)
  have HN := hide (num_rd g b n cap zs st 2 _ h0 (Or.inr (Or.inl rfl)))
  have hx := oN_range h0 2 (by omega)
  have HL1 := hide (lf_N 2 st)
  generalize oN 2 st = X at *
  obtain ⟨x, s1⟩ := X
  dsimp only at *
  obtain ⟨m, rfl⟩ : ∃ m : Nat, x = (m : Int) := ⟨x.toNat, by omega⟩
  have hm : m ≤ 65535 := by have := hx.2.2.1 (by omega); omega
  clear hx h h0 hbl
  go_enter Try.func94, Try.ntmps94
  go_wp2_with fail
  refine HN.out.mono ?_
  rintro e w1 ⟨rfl, R1, T1⟩
  have O1 := O0.turn T1 (fun k hk => by omega)
  have T1' : Turn (fun j => j = g) w w1 := (turn_below al).trans T1
  clear O0 T1 al HN
  go_wp2_with fail
  go_loopw [3, 4] (fun x i wr => ∃ (k : Nat) (xs : List Int) (s' : Option (List Int)), k ≤ m ∧ i = .int .i64 ((m - k : Nat) : Int) ∧ OG 3 1 clI wr w.heap.size x xs ∧ xs.length = k ∧ (∀ z ∈ xs, Wd z) ∧ RdS wr g b n cap zs s' ∧ Turn (fun j => j = g) w wr ∧ Lm (pN 4) m k s1 xs s') (fun _ i _ => (intOf i).toNat)
  case atStart => exact ⟨0, [], s1, Nat.zero_le _, rfl, O1, rfl, by simp, R1, T1', lm_zero _ _ _⟩
  case round =>
    obtain ⟨k, xs, s', hk, rfl, O, hxl, hwd, R, T, L⟩ := hrel
    clear O1 R1 T1'
    obtain ⟨a, c, rfl⟩ := og_shape O
    obtain ⟨kk, _, hb, _⟩ := R.pos
    have q2 := hb.cell 2
    simp at q2
    by_cases hlt : k < m
    · have hlt' : (0 : Int) < ((m - k : Nat) : Int) := by omega
      cases s' with
      | none =>
        have HX := hide (And.intro O (And.intro hwd (And.intro R (And.intro T ((HL1.out.bindM (q := fun x r => pM (pN 4) x.toNat r) (x := (m : Int)) (L.done (.inr rfl) hk)))))))
        have hl2 : xs.length ≤ 65535 := by omega
        have HL2 := hide hl2
        simp at q2
        rw [hxl]
        have HXL := hide hxl
        clear O R T L hb hxl hl2
        go_wp2
        go_ret
        have hl2 := HL2.out
        refine ⟨xs, _, none, rfl, ⟨⟨a, c, by rw [HXL.out]; rfl⟩, ?_, HX.out.2.1, hl2⟩, HX.out.2.2.1, HX.out.2.2.2.1, HX.out.2.2.2.2⟩
        have := HX.out.1
        rw [HXL.out] at this
        exact this
      | some r =>
        simp at q2
        have HN := hide (num_rd g b n cap zs (some r) 4 wr R (Or.inr (Or.inr rfl)))
        have hx := oN_range R 4 (by omega)
        have HL2 := hide (L.step hlt (lf_N 4 (some r)))
        generalize oN 4 (some r) = X at *
        obtain ⟨x, s2⟩ := X
        dsimp only at *
        have hO := O
        rw [hxl] at hO ⊢
        have HXL := hide hxl
        clear hxl L hb O R
        go_wp2_with fail
        refine HN.out.mono ?_
        rintro e w1 ⟨rfl, R1, T1⟩
        have O1 := hO.turn T1 (fun j hj => by omega)
        have T2 := T.trans (T1.mono (fun j hj => hj))
        have HO1 := hide (show (w1.alloc (.cells #[.int .i64 x] 3)).ownsRow w.heap.size 3 1 (.slice a k c) k (xs.flatMap clI) by have := O1.below ((Below.refl _ _).alloc (Nat.le_refl _) (.cells #[.int .i64 x] 3)); unfold OG at this; rw [HXL.out] at this; exact this)
        have HR1 := hide (And.intro R1 (And.intro T2 hO))
        have hsz := T2.size
        clear R1 T1 T2 T O1 hO HN
        go_wp2_with (at_builtin; refine wpList_append_own _ rfl _ _ 46 rfl w.heap.size 3 i0 (.int .i64 0) 1 8 Try.underlying46 hi hz0 hz1 hz2 rfl (by decide) (.slice a k c) k (xs.flatMap clI) rfl HO1.out ⟨w1.heap.size, 0, none⟩ 1 1 (clI x) rfl rfl (cells_new w1 _ _ (clI x) rfl) (by intro u hu; simp [clI] at hu; subst hu; rfl) (by unfold maxLen; omega) (by omega) (by simp; omega) ?_; intro v' w3 hown3 hgr3 _)
        obtain ⟨R1, T2, hO⟩ := HR1.out
        have T3 : Turn (fun j => j = g) w (w1.alloc (.cells #[.int .i64 x] 3)) := T2.trans (turn_alloc _ _)
        have hrow : ∀ j, (Value.slice a k c).ownBlock = some j → w.heap.size ≤ j := fun j hj => (hO.lt j hj).1
        have T4 := turn_grown T3 hgr3 hrow
        have R4 := (R1.below ((Below.refl _ _).alloc (Nat.le_refl _) (.cells #[.int .i64 x] 3))).grown hgr3 hrow hgl HBL.out
        have O4 : OG 3 1 clI w3 w.heap.size v' (xs ++ [x]) := by
          unfold OG
          rw [List.length_append, HXL.out, List.flatMap_append, List.flatMap_singleton]
          exact hown3
        have hwd2 : ∀ z ∈ xs ++ [x], Wd z := fun z hz => by
          rcases List.mem_append.1 hz with h' | h'
          · exact hwd z h'
          · simp at h'; rw [h']; exact ⟨hx.1, hx.2.1⟩
        have hl4 : (xs ++ [x]).length = k + 1 := by rw [List.length_append, HXL.out]; rfl
        have HX := hide (And.intro O4 (And.intro R4 (And.intro T4 (And.intro hwd2 hl4))))
        clear O4 R4 T4 T3 R1 T2 hO hown3 hgr3 hrow HR1 HO1 hwd2 hl4
        have hdec : ((m - k : Nat) : Int) - 1 = ((m - (k + 1) : Nat) : Int) := by omega
        have HDEC := hide hdec
        clear hdec
        go_wp2
        go_roundw
        case rel => exact ⟨k + 1, xs ++ [x], s2, by omega, by rw [← HDEC.out], HX.out.1, HX.out.2.2.2.2, HX.out.2.2.2.1, HX.out.2.1, HX.out.2.2.1, HL2.out⟩
        case measure => simp [intOf]; omega
    · obtain rfl : k = m := by omega
      have hn0 : ((k - k : Nat) : Int) = 0 := by omega
      rw [hn0]
      have HX := hide (And.intro O (And.intro hwd (And.intro R (And.intro T ((HL1.out.bindM (q := fun x r => pM (pN 4) x.toNat r) (x := (k : Int)) (L.done (.inl rfl) hk)))))))
      have hl2 : xs.length ≤ 65535 := by omega
      have HL2 := hide hl2
      rw [hxl]
      have HXL := hide hxl
      clear O R T L hb q2 hxl hl2
      go_wp2
      go_ret
      have hl2 := HL2.out
      refine ⟨xs, _, s', rfl, ⟨⟨a, c, by rw [HXL.out]; rfl⟩, ?_, HX.out.2.1, hl2⟩, HX.out.2.2.1, HX.out.2.2.2.1, HX.out.2.2.2.2⟩
      have := HX.out.1
      rw [HXL.out] at this
      exact this
end Go.Proofs.Ytngdgogjlpjjpac
