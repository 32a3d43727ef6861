import Derived.Laws.IdiomStrings
import Derived.Test.YtngdgogjlpjjpadP13
import Derived.Test.YtngdgogjlpjjpadP17
namespace Go.Proofs.Ytngdgogjlpjjpad
open Go.RowKit
set_option linter.unusedVariables false
set_option linter.unusedSimpArgs false
set_option maxRecDepth 100000
def panicE (c : Int) : Ending := .panicked [{ v := .iface 59 (.int .i64 c), recovered := false }]
structure RdI (W : World) (g b n cap : Nat) (zs r : List Int) : Prop where
  pos : ∃ k a, k ≤ n ∧ r = zs.drop k ∧ Blk W g #[.slice (some ⟨b, a, none⟩) (n - k) (cap - k)] 61 ∧ (cap - k ≠ 0 → a = k)
  bs : BS W (some ⟨b, 0, none⟩) n cap zs
  ne : b ≠ g
  small : n ≤ 1048576
theorem RdI.below {W W' : World} {g b n cap : Nat} {zs r : List Int} (h : RdI W g b n cap zs r) (hb : Below W.heap.size W W') : RdI W' g b n cap zs r := by
  obtain ⟨k, a, h1, h2, h3, h4⟩ := h.pos
  exact ⟨⟨k, a, h1, h2, h3.below hb, h4⟩, h.bs.below hb, h.ne, h.small⟩
theorem RdI.range {W : World} {g b n cap : Nat} {zs r : List Int} (h : RdI W g b n cap zs r) : ∀ z ∈ r, 0 ≤ z ∧ z ≤ 255 := by
  obtain ⟨k, a, h1, rfl, h3, h4⟩ := h.pos
  exact fun z hz => h.bs.2.2.1 z (List.mem_of_mem_drop hz)
def RP {α : Type} (w : World) (g b n cap : Nat) (zs : List Int) (R : α → Value → World → Prop) (p : Option (α × List Int)) (e : Ending) (w' : World) : Prop :=
  Turn (fun j => j = g) w w' ∧ match p with
    | some x => ∃ v, e = .returned v ∧ R x.1 v w' ∧ RdI w' g b n cap zs x.2
    | none => e = panicE 2
def isB (x : List Int) (v : Value) (w : World) : Prop := ∃ b k c, v = .slice (some ⟨b, k, none⟩) x.length c ∧ BS w (some ⟨b, k, none⟩) x.length c x
theorem RdI.set {W : World} {g b n cap : Nat} {zs r : List Int} (h : RdI W g b n cap zs r) (k a : Nat) (hk : k ≤ n) (ha : cap - k ≠ 0 → a = k) (v : Value) (hv : v = .slice (some ⟨b, a, none⟩) (n - k) (cap - k)) : RdI (W.setCell ⟨g, 0, none⟩ v) g b n cap zs (zs.drop k) := by
  obtain ⟨k', a', h1, h2, h3, h4⟩ := h.pos
  refine ⟨⟨k, a, hk, rfl, ?_, ha⟩, turn_bs (turn_set W g 0 v) h.bs (fun j hj b' off e => by simp at e; rw [hj, ← e.1]; exact h.ne), h.ne, h.small⟩
  rw [← hv]
  simpa using h3.set 0 v
set_option maxHeartbeats 1000000 in
theorem take_any (g b n cap : Nat) (zs r : List Int) (m : Nat) (w : World) (h : RdI w g b n cap zs r) (hm : m ≤ 1048576) :
    Calls Try.prog 68 #[.pointer (some ⟨g, 0, none⟩), .int .i64 m] w (RP w g b n cap zs isB (pB m r)) := by
  obtain ⟨k, a, hk, hr, hb, ha⟩ := h.pos
  have hl := h.bs.1
  have hcap := h.bs.2.2.2.2
  have hsm := h.small
  have hrl : r.length = n - k := by rw [hr, List.length_drop, hl]
  have q0 := hb.cell 0
  have f0 := hb.frozen 0
  simp at q0
  by_cases c : m ≤ r.length
  · have hc : m ≤ n - k := by omega
    have hp : pB m r = some (r.take m, r.drop m) := pB_some c
    rw [hp]
    have hlt : (r.take m).length = m := by rw [List.length_take]; omega
    have hrd : r.drop m = zs.drop (k + m) := by rw [hr, List.drop_drop]
    have hB1 : BS w (some ⟨b, a, none⟩) m (cap - k) (r.take m) := by
      by_cases hz : cap - k = 0
      · have : m = 0 := by omega
        subst this
        exact ⟨by simp, by unfold maxLen; omega, by simp, fun h => absurd rfl h, by omega⟩
      · have := (h.bs.drop k hk).take m hc
        rw [Nat.zero_add] at this
        rw [ha hz, hr]
        exact this
    have hx1 : (m : Int) ≤ ((n - k : Nat) : Int) := by omega
    have hx2 : ((n - k : Nat) : Int) ≤ ((cap - k : Nat) : Int) := by omega
    have hx0 : ¬ (((n - k : Nat) : Int) < (m : Int)) := by omega
    by_cases hcm : cap - k = m
    · have hck : n - k = m := by omega
      rw [hcm] at hB1
      have HP := hide (And.intro hB1 (And.intro h (And.intro hrd (And.intro hlt (show cap - (k + m) = 0 by omega)))))
      have hkm : k + m ≤ n := by omega
      have HW := hide (show n - (k + m) = 0 by omega)
      clear h hp hB1 hb hr hrl c hrd hlt ha hx0 hx1 hx2 hc
      rw [hck, hcm] at q0
      clear hck hcm
      go_enter Try.func68, Try.ntmps68
      go_wp2
      go_ret
      obtain ⟨hB1, h, hrd, hlt, hce⟩ := HP.out
      refine ⟨turn_set _ _ _ _, _, rfl, ⟨b, a, m, by rw [hlt]; rfl, ?_⟩, ?_⟩
      · rw [hlt]
        exact turn_bs (turn_set _ _ _ _) hB1 (fun j hj b' off e => by simp at e; rw [hj, ← e.1]; exact h.ne)
      · rw [hrd]
        refine h.set (k + m) a hkm (fun e => absurd hce e) _ ?_
        rw [HW.out, hce]
        try simp
    · have ha' := ha (by omega)
      subst ha'
      have HP := hide (And.intro hB1 (And.intro h (And.intro hrd hlt)))
      have hkm : a + m ≤ n := by omega
      clear h hp hB1 hb hr hrl c hrd hlt ha
      go_enter Try.func68, Try.ntmps68
      go_wp2
      go_ret
      obtain ⟨hB1, h, hrd, hlt⟩ := HP.out
      refine ⟨turn_set _ _ _ _, _, rfl, ⟨b, a, cap - a, by rw [hlt]; rfl, ?_⟩, ?_⟩
      · rw [hlt]
        exact turn_bs (turn_set _ _ _ _) hB1 (fun j hj b' off e => by simp at e; rw [hj, ← e.1]; exact h.ne)
      · rw [hrd]
        refine h.set (a + m) (a + m) hkm (fun e => rfl) _ ?_
        rw [Nat.sub_sub, Nat.sub_sub]
  · have hc : ((n - k : Nat) : Int) < (m : Int) := by omega
    rw [pB_none c]
    clear h hr hb
    go_enter Try.func68, Try.ntmps68
    go_wp2
    exact ⟨rfl, Turn.refl _ _, rfl⟩
theorem RP.none {α : Type} {w w' : World} {g b n cap : Nat} {zs : List Int} {R : α → Value → World → Prop} {p : Option (α × List Int)} {e : Ending} (h : RP w g b n cap zs R p e w') (hp : p = none) : Turn (fun j => j = g) w w' ∧ e = panicE 2 := by
  subst hp
  exact h
theorem RP.some {α : Type} {w w' : World} {g b n cap : Nat} {zs : List Int} {R : α → Value → World → Prop} {p : Option (α × List Int)} {e : Ending} {x : α} {r : List Int} (h : RP w g b n cap zs R p e w') (hp : p = Option.some (x, r)) : Turn (fun j => j = g) w w' ∧ ∃ v, e = .returned v ∧ R x v w' ∧ RdI w' g b n cap zs r := by
  subst hp
  exact h
theorem RP.ofNone {α : Type} {w w' : World} {g b n cap : Nat} {zs : List Int} {R : α → Value → World → Prop} {p : Option (α × List Int)} (hp : p = Option.none) (h : Turn (fun j => j = g) w w') : RP w g b n cap zs R p (panicE 2) w' := by
  subst hp
  exact ⟨h, rfl⟩
theorem RP.ofSome {α : Type} {w w' : World} {g b n cap : Nat} {zs : List Int} {R : α → Value → World → Prop} {p : Option (α × List Int)} {v : Value} {x : α} {r : List Int} (hp : p = Option.some (x, r)) (h : Turn (fun j => j = g) w w') (hv : R x v w') (hr : RdI w' g b n cap zs r) : RP w g b n cap zs R p (.returned v) w' := by
  subst hp
  exact ⟨h, v, rfl, hv, hr⟩
def isN (x : Int) (v : Value) (w : World) : Prop := v = .int .i64 x
theorem getBytes_any (b off n cap s : Nat) (zs : List Int) (w : World) (h : BS w (some ⟨b, off, none⟩) n cap zs) (hs : s = 1 ∨ s = 2 ∨ s = 4) (hn : s ≤ n) :
    Calls Try.prog 98 #[.slice (some ⟨b, off, none⟩) n cap, .int .i64 s] w fun e w' => e = .returned (.int .i64 (low (zs.take s))) ∧ Below w.heap.size w w' := by
  rcases hs with rfl | rfl | rfl
  · exact getBytes_1 b off n cap zs w h hn
  · exact getBytes_2 b off n cap zs w h hn
  · exact getBytes_4 b off n cap zs w h hn
set_option maxHeartbeats 1000000 in
theorem number_rd (g b n cap : Nat) (zs r : List Int) (s : Nat) (w : World) (h : RdI w g b n cap zs r) (hs : s = 1 ∨ s = 2 ∨ s = 4) :
    Calls Try.prog 72 #[.pointer (some ⟨g, 0, none⟩), .int .i64 s] w (RP w g b n cap zs isN (pN s r)) := by
  have HT := hide (take_any g b n cap zs r s w h (by omega))
  by_cases c : s ≤ r.length
  · have hlt : (r.take s).length = s := by rw [List.length_take]; omega
    have htt : (r.take s).take s = r.take s := by rw [List.take_take, Nat.min_self]
    rw [pN_some c]
    go_enter Try.func72, Try.ntmps72
    go_wp2_with fail
    refine HT.out.mono ?_
    intro e w1 H
    obtain ⟨T1, v, rfl, ⟨b', k, c', rfl, hB⟩, R1⟩ := H.some (pB_some c)
    rw [hlt] at hB ⊢
    have HG := hide (getBytes_any b' k s c' s (r.take s) w1 hB hs (Nat.le_refl _))
    rw [htt] at HG
    have HR := hide (And.intro T1 R1)
    clear T1 R1 hB
    go_wp2_with fail
    refine HG.out.mono ?_
    rintro e w2 ⟨rfl, hb2⟩
    have HR2 := hide (And.intro (HR.out.1.trans (turn_below hb2)) (HR.out.2.below hb2))
    go_wp2
    go_ret
    exact ⟨HR2.out.1, _, rfl, rfl, HR2.out.2⟩
  · rw [pN_none c]
    go_enter Try.func72, Try.ntmps72
    go_wp2_with fail
    refine HT.out.mono ?_
    intro e w1 H
    obtain ⟨T1, rfl⟩ := H.none (pB_none c)
    unfold panicE
    go_wp2
    exact ⟨rfl, T1, rfl⟩
theorem count_rd (g b n cap : Nat) (zs r : List Int) (w : World) (h : RdI w g b n cap zs r) :
    Calls Try.prog 74 #[.pointer (some ⟨g, 0, none⟩)] w (RP w g b n cap zs isN (pN 2 r)) := by
  have HN := hide (number_rd g b n cap zs r 2 w h (Or.inr (Or.inl rfl)))
  go_enter Try.func74, Try.ntmps74
  go_wp2_with fail
  refine HN.out.mono ?_
  intro e w1 H
  cases hp : pN 2 r with
  | none =>
    obtain ⟨T1, rfl⟩ := H.none hp
    unfold panicE
    go_wp2
    exact ⟨rfl, RP.ofNone rfl T1⟩
  | some x =>
    obtain ⟨T1, v, rfl, hv, R1⟩ := H.some hp
    go_wp2
    go_ret
    exact RP.ofSome hp T1 hv R1
theorem word_rd (g b n cap : Nat) (zs r : List Int) (w : World) (h : RdI w g b n cap zs r) :
    Calls Try.prog 97 #[.pointer (some ⟨g, 0, none⟩)] w (RP w g b n cap zs isN (pN 4 r)) := by
  have HN := hide (number_rd g b n cap zs r 4 w h (Or.inr (Or.inr rfl)))
  go_enter Try.func97, Try.ntmps97
  go_wp2_with fail
  refine HN.out.mono ?_
  intro e w1 H
  cases hp : pN 4 r with
  | none =>
    obtain ⟨T1, rfl⟩ := H.none hp
    unfold panicE
    go_wp2
    exact ⟨rfl, RP.ofNone rfl T1⟩
  | some x =>
    obtain ⟨T1, v, rfl, hv, R1⟩ := H.some hp
    go_wp2
    go_ret
    exact RP.ofSome hp T1 hv R1
def isS (x : ByteArray) (v : Value) (w : World) : Prop := v = .string x
theorem low1 {zs : List Int} (h : 1 ≤ zs.length) : low (zs.take 1) = zs.getD 0 0 := by
  rw [take1 zs h]
  show low [] * 256 + _ = _ <;> simp [low]
theorem run_text (w : World) (b k c : Nat) (x : List Int) (h : BS w (some ⟨b, k, none⟩) x.length c x) : (convert 22 9 (.slice (some ⟨b, k, none⟩) x.length c)).run Try.prog w = .ok (.string (strOf x)) w := by
  have hl : (x.map fun z => UInt8.ofNat z.toNat).length = x.length := by simp
  have := run_convert_bytes_back (P := Try.prog) w 22 9 5 ⟨b, k, none⟩ c (x.map fun z => UInt8.ofNat z.toNat) Try.underlying22 Try.underlying5 Try.underlying9 (fun j hj => by
    have hj' : j < x.length := by simpa using hj
    rw [addr_add, h.at j hj']
    have hz := h.range j
    have e1 : x.getD j 0 = x[j] := by simp [List.getD_eq_getElem?_getD, hj']
    have e2 : (UInt8.ofNat (x[j]).toNat).toNat = (x[j]).toNat % 256 := UInt8.toNat_ofNat'
    rw [List.getElem_map, e2, e1]
    rw [e1] at hz
    congr 2
    omega)
  rw [hl] at this
  exact this
set_option maxHeartbeats 1000000 in
theorem text_rd (g b n cap : Nat) (zs r : List Int) (w : World) (h : RdI w g b n cap zs r) :
    Calls Try.prog 69 #[.pointer (some ⟨g, 0, none⟩)] w (RP w g b n cap zs isS (pT r)) := by
  have HN := hide (number_rd g b n cap zs r 1 w h (Or.inl rfl))
  by_cases c : 1 ≤ r.length
  · have hp := pN_some (s := 1) c
    have hrg := h.range
    have hx : 0 ≤ low (r.take 1) ∧ low (r.take 1) ≤ 4294967295 := low_small _ (fun z hz => hrg z (List.mem_of_mem_take hz)) (by rw [List.length_take]; omega)
    have hx2 : low (r.take 1) ≤ 255 := by
      rw [low1 c]
      have : r.getD 0 0 ∈ r := by simp [List.getD_eq_getElem?_getD, show 0 < r.length by omega]
      exact (hrg _ this).2
    have hPT : pT r = (pB (low (r.take 1)).toNat (r.drop 1)).map fun y => (strOf y.1, y.2) := by unfold pT; rw [hp]; rfl
    rw [hPT]
    obtain ⟨m, hm⟩ : ∃ m : Nat, low (r.take 1) = (m : Int) := ⟨(low (r.take 1)).toNat, by omega⟩
    rw [hm] at hp hx hx2 ⊢
    rw [Int.toNat_natCast]
    clear hPT
    have hm' : m ≤ 255 := by omega
    go_enter Try.func69, Try.ntmps69
    go_wp2_with fail
    refine HN.out.mono ?_
    intro e w1 H
    obtain ⟨T1, v, rfl, hv, R1⟩ := H.some hp
    obtain rfl : v = .int .i64 m := hv
    have HT := hide (take_any g b n cap zs (r.drop 1) m w1 R1 (by omega))
    clear H HN
    go_wp2_with fail
    refine HT.out.mono ?_
    intro e w2 H
    cases hq : pB m (r.drop 1) with
    | none =>
      obtain ⟨T2, rfl⟩ := H.none hq
      unfold panicE
      go_wp2
      exact ⟨rfl, RP.ofNone (by rw [hq]; rfl) (T1.trans T2)⟩
    | some x =>
      obtain ⟨x, r'⟩ := x
      obtain ⟨T2, v, rfl, ⟨b', k, c', rfl, hB⟩, R2⟩ := H.some hq
      have hcv := run_text w2 b' k c' x hB
      have HR := hide (And.intro (T1.trans T2) R2)
      clear T1 T2 R1 R2 hB H HT
      go_wp2
      go_ret
      exact RP.ofSome (x := strOf x) (r := r') (by rw [hq]; rfl) HR.out.1 rfl HR.out.2
  · have hp := pN_none (s := 1) c
    have hPT : pT r = none := by unfold pT; rw [hp]; rfl
    rw [hPT]
    go_enter Try.func69, Try.ntmps69
    go_wp2_with fail
    refine HN.out.mono ?_
    intro e w1 H
    obtain ⟨T1, rfl⟩ := H.none hp
    unfold panicE
    go_wp2
    exact ⟨rfl, RP.ofNone rfl T1⟩
theorem RdI.grown {W W' : World} {g b n cap base : Nat} {zs r : List Int} {row : Option Nat} (h : RdI W g b n cap zs r) (hg : W.grownBy W' row) (hr : ∀ k, row = some k → base ≤ k) (h1 : g < base) (h2 : n ≠ 0 → b < base) : RdI W' g b n cap zs r := by
  obtain ⟨k, a, p1, p2, p3, p4⟩ := h.pos
  have t : Turn (fun j => row = some j) W W' := ⟨hg.os, hg.tape, hg.output, hg.size, fun j hj hs => hg.block j hj (fun e => hs e.symm)⟩
  refine ⟨⟨k, a, p1, p2, turn_blk t p3 (fun e => by have := hr g e; omega), p4⟩, ?_, h.ne, h.small⟩
  by_cases hn : n = 0
  · subst hn
    obtain ⟨b1, b2, b3, b4, b5⟩ := h.bs
    exact ⟨b1, b2, b3, fun e => absurd rfl e, b5⟩
  · exact turn_bs t h.bs (fun j hj b' off e => by simp at e; have := hr j hj; have := h2 hn; omega)
def isL {α : Type} (O : World → Nat → Value → List α → Prop) (base : Nat) (x : List α) (v : Value) (w : World) : Prop := ∃ a c, v = .slice a x.length c ∧ O w base v x
set_option maxHeartbeats 2000000 in
theorem takenIword_rd (g b n cap : Nat) (zs : List Int) (m : Nat) (r0 : List Int) (w : World) (h : RdI w g b n cap zs r0) (hm : m ≤ 1048576) :
    Calls Try.prog 75 #[.int .i64 m, .func (.func 97) #[.pointer (some ⟨g, 0, none⟩)] #[]] w (RP w g b n cap zs (isL (OG 3 1 clI) w.heap.size) (pM (pN 4) m r0)) := by
  obtain ⟨i0, hi, hz0, hz1, hz2⟩ := info_parts infoI
  have hgl : g < w.heap.size := by obtain ⟨_, _, _, _, hb, _⟩ := h.pos; exact hb.lt
  have hbl : n ≠ 0 → b < w.heap.size := fun hn => by
    obtain ⟨_, _, _, h4, _⟩ := h.bs
    obtain ⟨b', off, e, hc⟩ := h4 hn
    simp at e
    have := World.block_lt_of_cell? w _ (hc 0 (by omega))
    simpa [e.1] using this
  have HF := hide (fun w r h => word_rd g b n cap zs r w h)
  have HBL := hide hbl
  clear hbl
  go_enter Try.func75, Try.ntmps75
  go_wp2_with fail
  go_loopw [5, 7] (fun x i wr => ∃ (k : Nat) (xs : List Int) (r : List Int), k ≤ m ∧ i = .int .i64 k ∧ pM (pN 4) k r0 = some (xs, r) ∧ OG 3 1 clI wr w.heap.size x xs ∧ RdI wr g b n cap zs r ∧ Turn (fun j => j = g) w wr) (fun _ i _ => m - (intOf i).toNat)
  case atStart => exact ⟨0, [], r0, Nat.zero_le _, rfl, rfl, og_nil _ _ _ _ _, h, Turn.refl _ _⟩
  case round =>
    obtain ⟨k, xs, r, hk, rfl, hp, O, R, T⟩ := hrel
    have hxl := pM_len hp
    by_cases hlt : k < m
    · have hlt' : (k : Int) < (m : Int) := by omega
      have hsc := pM_succ hp
      have HC := hide (HF.out wr r R)
      have hO := O
      obtain ⟨a, c, rfl⟩ := og_shape O
      rw [hxl] at hO ⊢
      have HXL := hide hxl
      clear hxl
      go_wp2_with fail
      refine HC.out.mono ?_
      intro e w1 H
      cases hq : (pN 4) r with
      | none =>
        obtain ⟨T1, rfl⟩ := H.none hq
        have hN : pM (pN 4) m r0 = none := by
          rw [hq] at hsc
          have := pM_none (k := k + 1) hsc (m - (k + 1))
          rwa [show k + 1 + (m - (k + 1)) = m by omega] at this
        unfold panicE
        go_wp2
        exact ⟨rfl, RP.ofNone hN (T.trans (T1.mono (fun j hj => hj)))⟩
      | some x =>
        obtain ⟨x, r'⟩ := x
        obtain ⟨T1, v, rfl, hv, R1⟩ := H.some hq
        rw [hq] at hsc
        have hsc' : pM (pN 4) (k + 1) r0 = some (xs ++ [x], r') := hsc
        have O1 := hO.turn T1 (fun j hj => by omega)
        have T2 := T.trans (T1.mono (fun j hj => hj))
        obtain rfl : v = .int .i64 x := hv
        have HO1 := hide (show (w1.alloc (.cells #[.int .i64 x] 3)).ownsRow w.heap.size 3 1 (.slice a k c) k (xs.flatMap clI) by have := O1.below ((Below.refl _ _).alloc (Nat.le_refl _) (.cells #[.int .i64 x] 3)); unfold OG at this; rw [HXL.out] at this; exact this)
        have HR1 := hide (And.intro R1 (And.intro T2 (And.intro hsc' hO)))
        have hsz := T2.size
        clear R1 T1 T2 T R O O1 hsc hsc' H HC hq hp hO
        go_wp2_with (at_builtin; refine wpList_append_own _ rfl _ _ 24 rfl w.heap.size 3 i0 (.int .i64 0) 1 8 Try.underlying24 hi hz0 hz1 hz2 rfl (by decide) (.slice a k c) k (xs.flatMap clI) rfl HO1.out ⟨w1.heap.size, 0, none⟩ 1 1 (clI x) rfl rfl (cells_new w1 _ _ (clI x) rfl) (by intro u hu; simp [clI] at hu; first | (subst hu; rfl) | (rcases hu with rfl | rfl | rfl <;> rfl)) (by unfold maxLen; omega) (by omega) (by simp; omega) ?_; intro v' w3 hown3 hgr3 _)
        obtain ⟨R1, T2, hsc', hO⟩ := HR1.out
        have T3 : Turn (fun j => j = g) w (w1.alloc (.cells #[.int .i64 x] 3)) := T2.trans (turn_alloc _ _)
        have hrow : ∀ j, (Value.slice a k c).ownBlock = some j → w.heap.size ≤ j := fun j hj => (hO.lt j hj).1
        have T4 := turn_grown T3 hgr3 hrow
        have R4 := (R1.below ((Below.refl _ _).alloc (Nat.le_refl _) (.cells #[.int .i64 x] 3))).grown hgr3 hrow hgl HBL.out
        have O4 : OG 3 1 clI w3 w.heap.size v' (xs ++ [x]) := by
          unfold OG
          rw [List.length_append, HXL.out, List.flatMap_append, List.flatMap_singleton]
          exact hown3
        have HX := hide (And.intro hsc' (And.intro O4 (And.intro R4 T4)))
        clear hsc' O4 R4 T4 T3 R1 T2 hO hown3 hgr3 hrow HR1 HO1
        go_roundw
        case rel => exact ⟨k + 1, xs ++ [x], r', by omega, by go_num, HX.out.1, HX.out.2.1, HX.out.2.2.1, HX.out.2.2.2⟩
        case measure => simp [intOf]; omega
    · obtain rfl : k = m := by omega
      obtain ⟨a, c, rfl⟩ := og_shape O
      have HX := hide (And.intro hp (And.intro O (And.intro R T)))
      clear hp O R T
      go_wp2
      go_ret
      exact RP.ofSome HX.out.1 HX.out.2.2.2 ⟨a, c, rfl, HX.out.2.1⟩ HX.out.2.2.1
set_option maxHeartbeats 2000000 in
theorem takenIcount_rd (g b n cap : Nat) (zs : List Int) (m : Nat) (r0 : List Int) (w : World) (h : RdI w g b n cap zs r0) (hm : m ≤ 1048576) :
    Calls Try.prog 75 #[.int .i64 m, .func (.func 74) #[.pointer (some ⟨g, 0, none⟩)] #[]] w (RP w g b n cap zs (isL (OG 3 1 clI) w.heap.size) (pM (pN 2) m r0)) := by
  obtain ⟨i0, hi, hz0, hz1, hz2⟩ := info_parts infoI
  have hgl : g < w.heap.size := by obtain ⟨_, _, _, _, hb, _⟩ := h.pos; exact hb.lt
  have hbl : n ≠ 0 → b < w.heap.size := fun hn => by
    obtain ⟨_, _, _, h4, _⟩ := h.bs
    obtain ⟨b', off, e, hc⟩ := h4 hn
    simp at e
    have := World.block_lt_of_cell? w _ (hc 0 (by omega))
    simpa [e.1] using this
  have HF := hide (fun w r h => count_rd g b n cap zs r w h)
  have HBL := hide hbl
  clear hbl
  go_enter Try.func75, Try.ntmps75
  go_wp2_with fail
  go_loopw [5, 7] (fun x i wr => ∃ (k : Nat) (xs : List Int) (r : List Int), k ≤ m ∧ i = .int .i64 k ∧ pM (pN 2) k r0 = some (xs, r) ∧ OG 3 1 clI wr w.heap.size x xs ∧ RdI wr g b n cap zs r ∧ Turn (fun j => j = g) w wr) (fun _ i _ => m - (intOf i).toNat)
  case atStart => exact ⟨0, [], r0, Nat.zero_le _, rfl, rfl, og_nil _ _ _ _ _, h, Turn.refl _ _⟩
  case round =>
    obtain ⟨k, xs, r, hk, rfl, hp, O, R, T⟩ := hrel
    have hxl := pM_len hp
    by_cases hlt : k < m
    · have hlt' : (k : Int) < (m : Int) := by omega
      have hsc := pM_succ hp
      have HC := hide (HF.out wr r R)
      have hO := O
      obtain ⟨a, c, rfl⟩ := og_shape O
      rw [hxl] at hO ⊢
      have HXL := hide hxl
      clear hxl
      go_wp2_with fail
      refine HC.out.mono ?_
      intro e w1 H
      cases hq : (pN 2) r with
      | none =>
        obtain ⟨T1, rfl⟩ := H.none hq
        have hN : pM (pN 2) m r0 = none := by
          rw [hq] at hsc
          have := pM_none (k := k + 1) hsc (m - (k + 1))
          rwa [show k + 1 + (m - (k + 1)) = m by omega] at this
        unfold panicE
        go_wp2
        exact ⟨rfl, RP.ofNone hN (T.trans (T1.mono (fun j hj => hj)))⟩
      | some x =>
        obtain ⟨x, r'⟩ := x
        obtain ⟨T1, v, rfl, hv, R1⟩ := H.some hq
        rw [hq] at hsc
        have hsc' : pM (pN 2) (k + 1) r0 = some (xs ++ [x], r') := hsc
        have O1 := hO.turn T1 (fun j hj => by omega)
        have T2 := T.trans (T1.mono (fun j hj => hj))
        obtain rfl : v = .int .i64 x := hv
        have HO1 := hide (show (w1.alloc (.cells #[.int .i64 x] 3)).ownsRow w.heap.size 3 1 (.slice a k c) k (xs.flatMap clI) by have := O1.below ((Below.refl _ _).alloc (Nat.le_refl _) (.cells #[.int .i64 x] 3)); unfold OG at this; rw [HXL.out] at this; exact this)
        have HR1 := hide (And.intro R1 (And.intro T2 (And.intro hsc' hO)))
        have hsz := T2.size
        clear R1 T1 T2 T R O O1 hsc hsc' H HC hq hp hO
        go_wp2_with (at_builtin; refine wpList_append_own _ rfl _ _ 24 rfl w.heap.size 3 i0 (.int .i64 0) 1 8 Try.underlying24 hi hz0 hz1 hz2 rfl (by decide) (.slice a k c) k (xs.flatMap clI) rfl HO1.out ⟨w1.heap.size, 0, none⟩ 1 1 (clI x) rfl rfl (cells_new w1 _ _ (clI x) rfl) (by intro u hu; simp [clI] at hu; first | (subst hu; rfl) | (rcases hu with rfl | rfl | rfl <;> rfl)) (by unfold maxLen; omega) (by omega) (by simp; omega) ?_; intro v' w3 hown3 hgr3 _)
        obtain ⟨R1, T2, hsc', hO⟩ := HR1.out
        have T3 : Turn (fun j => j = g) w (w1.alloc (.cells #[.int .i64 x] 3)) := T2.trans (turn_alloc _ _)
        have hrow : ∀ j, (Value.slice a k c).ownBlock = some j → w.heap.size ≤ j := fun j hj => (hO.lt j hj).1
        have T4 := turn_grown T3 hgr3 hrow
        have R4 := (R1.below ((Below.refl _ _).alloc (Nat.le_refl _) (.cells #[.int .i64 x] 3))).grown hgr3 hrow hgl HBL.out
        have O4 : OG 3 1 clI w3 w.heap.size v' (xs ++ [x]) := by
          unfold OG
          rw [List.length_append, HXL.out, List.flatMap_append, List.flatMap_singleton]
          exact hown3
        have HX := hide (And.intro hsc' (And.intro O4 (And.intro R4 T4)))
        clear hsc' O4 R4 T4 T3 R1 T2 hO hown3 hgr3 hrow HR1 HO1
        go_roundw
        case rel => exact ⟨k + 1, xs ++ [x], r', by omega, by go_num, HX.out.1, HX.out.2.1, HX.out.2.2.1, HX.out.2.2.2⟩
        case measure => simp [intOf]; omega
    · obtain rfl : k = m := by omega
      obtain ⟨a, c, rfl⟩ := og_shape O
      have HX := hide (And.intro hp (And.intro O (And.intro R T)))
      clear hp O R T
      go_wp2
      go_ret
      exact RP.ofSome HX.out.1 HX.out.2.2.2 ⟨a, c, rfl, HX.out.2.1⟩ HX.out.2.2.1
set_option maxHeartbeats 2000000 in
theorem takenTtext_rd (g b n cap : Nat) (zs : List Int) (m : Nat) (r0 : List Int) (w : World) (h : RdI w g b n cap zs r0) (hm : m ≤ 1048576) :
    Calls Try.prog 76 #[.int .i64 m, .func (.func 69) #[.pointer (some ⟨g, 0, none⟩)] #[]] w (RP w g b n cap zs (isL (OG 9 1 clT) w.heap.size) (pM (pT) m r0)) := by
  obtain ⟨i0, hi, hz0, hz1, hz2⟩ := info_parts infoT
  have hgl : g < w.heap.size := by obtain ⟨_, _, _, _, hb, _⟩ := h.pos; exact hb.lt
  have hbl : n ≠ 0 → b < w.heap.size := fun hn => by
    obtain ⟨_, _, _, h4, _⟩ := h.bs
    obtain ⟨b', off, e, hc⟩ := h4 hn
    simp at e
    have := World.block_lt_of_cell? w _ (hc 0 (by omega))
    simpa [e.1] using this
  have HF := hide (fun w r h => text_rd g b n cap zs r w h)
  have HBL := hide hbl
  clear hbl
  go_enter Try.func76, Try.ntmps76
  go_wp2_with fail
  go_loopw [5, 7] (fun x i wr => ∃ (k : Nat) (xs : List ByteArray) (r : List Int), k ≤ m ∧ i = .int .i64 k ∧ pM (pT) k r0 = some (xs, r) ∧ OG 9 1 clT wr w.heap.size x xs ∧ RdI wr g b n cap zs r ∧ Turn (fun j => j = g) w wr) (fun _ i _ => m - (intOf i).toNat)
  case atStart => exact ⟨0, [], r0, Nat.zero_le _, rfl, rfl, og_nil _ _ _ _ _, h, Turn.refl _ _⟩
  case round =>
    obtain ⟨k, xs, r, hk, rfl, hp, O, R, T⟩ := hrel
    have hxl := pM_len hp
    by_cases hlt : k < m
    · have hlt' : (k : Int) < (m : Int) := by omega
      have hsc := pM_succ hp
      have HC := hide (HF.out wr r R)
      have hO := O
      obtain ⟨a, c, rfl⟩ := og_shape O
      rw [hxl] at hO ⊢
      have HXL := hide hxl
      clear hxl
      go_wp2_with fail
      refine HC.out.mono ?_
      intro e w1 H
      cases hq : (pT) r with
      | none =>
        obtain ⟨T1, rfl⟩ := H.none hq
        have hN : pM (pT) m r0 = none := by
          rw [hq] at hsc
          have := pM_none (k := k + 1) hsc (m - (k + 1))
          rwa [show k + 1 + (m - (k + 1)) = m by omega] at this
        unfold panicE
        go_wp2
        exact ⟨rfl, RP.ofNone hN (T.trans (T1.mono (fun j hj => hj)))⟩
      | some x =>
        obtain ⟨x, r'⟩ := x
        obtain ⟨T1, v, rfl, hv, R1⟩ := H.some hq
        rw [hq] at hsc
        have hsc' : pM (pT) (k + 1) r0 = some (xs ++ [x], r') := hsc
        have O1 := hO.turn T1 (fun j hj => by omega)
        have T2 := T.trans (T1.mono (fun j hj => hj))
        obtain rfl : v = .string x := hv
        have HO1 := hide (show (w1.alloc (.cells #[.string x] 9)).ownsRow w.heap.size 9 1 (.slice a k c) k (xs.flatMap clT) by have := O1.below ((Below.refl _ _).alloc (Nat.le_refl _) (.cells #[.string x] 9)); unfold OG at this; rw [HXL.out] at this; exact this)
        have HR1 := hide (And.intro R1 (And.intro T2 (And.intro hsc' hO)))
        have hsz := T2.size
        clear R1 T1 T2 T R O O1 hsc hsc' H HC hq hp hO
        go_wp2_with (at_builtin; refine wpList_append_own _ rfl _ _ 26 rfl w.heap.size 9 i0 (.string ⟨#[]⟩) 1 16 Try.underlying26 hi hz0 hz1 hz2 rfl (by decide) (.slice a k c) k (xs.flatMap clT) rfl HO1.out ⟨w1.heap.size, 0, none⟩ 1 1 (clT x) rfl rfl (cells_new w1 _ _ (clT x) rfl) (by intro u hu; simp [clT] at hu; first | (subst hu; rfl) | (rcases hu with rfl | rfl | rfl <;> rfl)) (by unfold maxLen; omega) (by omega) (by simp; omega) ?_; intro v' w3 hown3 hgr3 _)
        obtain ⟨R1, T2, hsc', hO⟩ := HR1.out
        have T3 : Turn (fun j => j = g) w (w1.alloc (.cells #[.string x] 9)) := T2.trans (turn_alloc _ _)
        have hrow : ∀ j, (Value.slice a k c).ownBlock = some j → w.heap.size ≤ j := fun j hj => (hO.lt j hj).1
        have T4 := turn_grown T3 hgr3 hrow
        have R4 := (R1.below ((Below.refl _ _).alloc (Nat.le_refl _) (.cells #[.string x] 9))).grown hgr3 hrow hgl HBL.out
        have O4 : OG 9 1 clT w3 w.heap.size v' (xs ++ [x]) := by
          unfold OG
          rw [List.length_append, HXL.out, List.flatMap_append, List.flatMap_singleton]
          exact hown3
        have HX := hide (And.intro hsc' (And.intro O4 (And.intro R4 T4)))
        clear hsc' O4 R4 T4 T3 R1 T2 hO hown3 hgr3 hrow HR1 HO1
        go_roundw
        case rel => exact ⟨k + 1, xs ++ [x], r', by omega, by go_num, HX.out.1, HX.out.2.1, HX.out.2.2.1, HX.out.2.2.2⟩
        case measure => simp [intOf]; omega
    · obtain rfl : k = m := by omega
      obtain ⟨a, c, rfl⟩ := og_shape O
      have HX := hide (And.intro hp (And.intro O (And.intro R T)))
      clear hp O R T
      go_wp2
      go_ret
      exact RP.ofSome HX.out.1 HX.out.2.2.2 ⟨a, c, rfl, HX.out.2.1⟩ HX.out.2.2.1
end Go.Proofs.Ytngdgogjlpjjpad
