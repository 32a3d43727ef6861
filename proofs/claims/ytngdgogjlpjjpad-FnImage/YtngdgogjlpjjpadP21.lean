import Derived.Test.YtngdgogjlpjjpadP13
import Derived.Test.YtngdgogjlpjjpadP19
import Derived.Test.YtngdgogjlpjjpadP20
namespace Go.Proofs.Ytngdgogjlpjjpad
open Go.RowKit
set_option linter.unusedVariables false
set_option linter.unusedSimpArgs false
set_option maxRecDepth 100000
set_option maxHeartbeats 2000000 in
theorem takenXexport_rd (g b n cap : Nat) (zs : List Int) (m : Nat) (r0 : List Int) (w : World) (h : RdI w g b n cap zs r0) (hm : m ≤ 1048576) :
    Calls Try.prog 77 #[.int .i64 m, .func (.func 78) #[.pointer (some ⟨g, 0, none⟩)] #[]] w (RP w g b n cap zs (isL (OG 58 3 clX) w.heap.size) (pM (pX) m r0)) := by
  obtain ⟨i0, hi, hz0, hz1, hz2⟩ := info_parts infoX
  have hgl : g < w.heap.size := by obtain ⟨_, _, _, _, hb, _⟩ := h.pos; exact hb.lt
  have hbl : n ≠ 0 → b < w.heap.size := fun hn => by
    obtain ⟨_, _, _, h4, _⟩ := h.bs
    obtain ⟨b', off, e, hc⟩ := h4 hn
    simp at e
    have := World.block_lt_of_cell? w _ (hc 0 (by omega))
    simpa [e.1] using this
  have HF := hide (fun w r h => export_rd g b n cap zs r w h)
  have HBL := hide hbl
  clear hbl
  go_enter Try.func77, Try.ntmps77
  go_wp2_with fail
  go_loopw [5, 7] (fun x i wr => ∃ (k : Nat) (xs : List Ex) (r : List Int), k ≤ m ∧ i = .int .i64 k ∧ pM (pX) k r0 = some (xs, r) ∧ OG 58 3 clX wr w.heap.size x xs ∧ RdI wr g b n cap zs r ∧ Turn (fun j => j = g) w wr) (fun _ i _ => m - (intOf i).toNat)
  case atStart => exact ⟨0, [], r0, Nat.zero_le _, rfl, rfl, og_nil _ _ _ _ _, h, Turn.refl _ _⟩
  case round =>
    obtain ⟨k, xs, r, hk, rfl, hp, O, R, T⟩ := hrel
    have hxl := pM_len hp
    by_cases hlt : k < m
    · have hlt' : (k : Int) < (m : Int) := by omega
      have hsc := pM_succ hp
      have HC := hide (HF.out wr r R)
      have hO := O
      obtain ⟨a, c, rfl⟩ := og_shape O
      rw [hxl] at hO ⊢
      have HXL := hide hxl
      clear hxl
      go_wp2_with fail
      refine HC.out.mono ?_
      intro e w1 H
      cases hq : (pX) r with
      | none =>
        obtain ⟨T1, rfl⟩ := H.none hq
        have hN : pM (pX) m r0 = none := by
          rw [hq] at hsc
          have := pM_none (k := k + 1) hsc (m - (k + 1))
          rwa [show k + 1 + (m - (k + 1)) = m by omega] at this
        unfold panicE
        go_wp2
        exact ⟨rfl, RP.ofNone hN (T.trans (T1.mono (fun j hj => hj)))⟩
      | some x =>
        obtain ⟨x, r'⟩ := x
        obtain ⟨T1, v, rfl, hv, R1⟩ := H.some hq
        rw [hq] at hsc
        have hsc' : pM (pX) (k + 1) r0 = some (xs ++ [x], r') := hsc
        have O1 := hO.turn T1 (fun j hj => by omega)
        have T2 := T.trans (T1.mono (fun j hj => hj))
        obtain rfl : v = .agg #[.string x.1, .int .i64 x.2.1, .int .i64 x.2.2] := hv
        have HO1 := hide (show (w1.alloc (.cells #[.string x.1, .int .i64 x.2.1, .int .i64 x.2.2] 58)).ownsRow w.heap.size 58 3 (.slice a k c) k (xs.flatMap clX) by have := O1.below ((Below.refl _ _).alloc (Nat.le_refl _) (.cells #[.string x.1, .int .i64 x.2.1, .int .i64 x.2.2] 58)); unfold OG at this; rw [HXL.out] at this; exact this)
        have HR1 := hide (And.intro R1 (And.intro T2 (And.intro hsc' hO)))
        have hsz := T2.size
        clear R1 T1 T2 T R O O1 hsc hsc' H HC hq hp hO
        go_wp2_with (at_builtin; refine wpList_append_own _ rfl _ _ 27 rfl w.heap.size 58 i0 (.agg #[.string ⟨#[]⟩, .int .i64 0, .int .i64 0]) 3 32 Try.underlying27 hi hz0 hz1 hz2 rfl (by decide) (.slice a k c) k (xs.flatMap clX) rfl HO1.out ⟨w1.heap.size, 0, none⟩ 1 1 (clX x) rfl rfl (cells_new w1 _ _ (clX x) rfl) (by intro u hu; simp [clX] at hu; first | (subst hu; rfl) | (rcases hu with rfl | rfl | rfl <;> rfl)) (by unfold maxLen; omega) (by omega) (by simp; omega) ?_; intro v' w3 hown3 hgr3 _)
        obtain ⟨R1, T2, hsc', hO⟩ := HR1.out
        have T3 : Turn (fun j => j = g) w (w1.alloc (.cells #[.string x.1, .int .i64 x.2.1, .int .i64 x.2.2] 58)) := T2.trans (turn_alloc _ _)
        have hrow : ∀ j, (Value.slice a k c).ownBlock = some j → w.heap.size ≤ j := fun j hj => (hO.lt j hj).1
        have T4 := turn_grown T3 hgr3 hrow
        have R4 := (R1.below ((Below.refl _ _).alloc (Nat.le_refl _) (.cells #[.string x.1, .int .i64 x.2.1, .int .i64 x.2.2] 58))).grown hgr3 hrow hgl HBL.out
        have O4 : OG 58 3 clX w3 w.heap.size v' (xs ++ [x]) := by
          unfold OG
          rw [List.length_append, HXL.out, List.flatMap_append, List.flatMap_singleton]
          exact hown3
        have HX := hide (And.intro hsc' (And.intro O4 (And.intro R4 T4)))
        clear hsc' O4 R4 T4 T3 R1 T2 hO hown3 hgr3 hrow HR1 HO1
        go_roundw
        case rel => exact ⟨k + 1, xs ++ [x], r', by omega, by go_num, HX.out.1, HX.out.2.1, HX.out.2.2.1, HX.out.2.2.2⟩
        case measure => simp [intOf]; omega
    · obtain rfl : k = m := by omega
      obtain ⟨a, c, rfl⟩ := og_shape O
      have HX := hide (And.intro hp (And.intro O (And.intro R T)))
      clear hp O R T
      go_wp2
      go_ret
      exact RP.ofSome HX.out.1 HX.out.2.2.2 ⟨a, c, rfl, HX.out.2.1⟩ HX.out.2.2.1
theorem RP.mono {α : Type} {w w' : World} {g b n cap : Nat} {zs : List Int} {R R' : α → Value → World → Prop} {p : Option (α × List Int)} {e : Ending} (h : RP w g b n cap zs R p e w') (hR : ∀ x v, R x v w' → R' x v w') : RP w g b n cap zs R' p e w' := by
  cases p with
  | none => exact h
  | some x => obtain ⟨T, v, he, hv, r⟩ := h; exact ⟨T, v, he, hR _ _ hv, r⟩
set_option maxHeartbeats 1000000 in
theorem words_rd (g b n cap : Nat) (zs r : List Int) (w : World) (h : RdI w g b n cap zs r) :
    Calls Try.prog 70 #[.pointer (some ⟨g, 0, none⟩)] w (RP w g b n cap zs (isL (OG 3 1 clI) w.heap.size) (pL r)) := by
  have HX : Hid (pL r = (pN 2 r).bind fun x => pM (pN 4) x.1.toNat x.2) := rfl
  have hmf : ∀ (fn : Fn) (first cap : Array Value) (w : World), (Instr.makeFunc fn first cap).run Try.prog w = .ok (.func fn first cap) w := fun _ _ _ _ => rfl
  have HC := hide (count_rd g b n cap zs r w h)
  have hrg := h.range
  go_enter Try.func70, Try.ntmps70
  go_wp2_with fail
  refine HC.out.mono ?_
  intro e w1 H
  cases hp : pN 2 r with
  | none =>
    obtain ⟨T1, rfl⟩ := H.none hp
    unfold panicE
    go_wp2
    exact ⟨rfl, RP.ofNone (by rw [HX.out, hp]; rfl) T1⟩
  | some x =>
    obtain ⟨x, r1⟩ := x
    obtain ⟨T1, v, rfl, hv, R1⟩ := H.some hp
    obtain rfl : v = .int .i64 x := hv
    have hx := pN_range hrg (by omega) hp
    obtain ⟨m, rfl⟩ : ∃ m : Nat, x = (m : Int) := ⟨x.toNat, by omega⟩
    have hm : m ≤ 65535 := by have := hx.2.2 (by omega); omega
    have HX2 := hide (show pL r = pM (pN 4) m r1 by rw [HX.out, hp]; show pM (pN 4) ((m : Int).toNat) r1 = _; rw [Int.toNat_natCast])
    have HT := hide (takenIword_rd g b n cap zs m r1 w1 R1 (by omega))
    clear HC H hp hrg hx
    go_wp2_with fail
    refine HT.out.mono ?_
    intro e w2 H
    cases hq : pM (pN 4) m r1 with
    | none =>
      obtain ⟨T2, rfl⟩ := H.none hq
      unfold panicE
      go_wp2
      exact ⟨rfl, RP.ofNone (HX2.out.trans hq) (T1.trans T2)⟩
    | some y =>
      obtain ⟨y, r2⟩ := y
      obtain ⟨T2, v, rfl, ⟨a, c, rfl, O⟩, R2⟩ := H.some hq
      have HF := hide (And.intro (T1.trans T2) (And.intro (O.mono T1.size) R2))
      clear T1 T2 O R1 R2 H HT
      go_wp2
      go_ret
      exact RP.ofSome (HX2.out.trans hq) HF.out.1 ⟨a, c, rfl, HF.out.2.1⟩ HF.out.2.2
def isLB (base : Nat) (xs : List (List Int)) (v : Value) (w : World) : Prop := ∃ bl : List Bk, bl.map (fun B => B.2.2.2) = xs ∧ ∃ a c, v = .slice a bl.length c ∧ OBk w base v bl
set_option maxHeartbeats 2000000 in
theorem takenB_rd (g b n cap : Nat) (zs : List Int) (m : Nat) (r0 : List Int) (w : World) (h : RdI w g b n cap zs r0) (hm : m ≤ 1048576) :
    Calls Try.prog 71 #[.int .i64 m, .func (.func 70) #[.pointer (some ⟨g, 0, none⟩)] #[]] w (RP w g b n cap zs (isLB w.heap.size) (pM pL m r0)) := by
  obtain ⟨i0, hi, hz0, hz1, hz2⟩ := info_parts infoB
  obtain ⟨hgl, hbl⟩ := h.lts
  have HF := hide (fun w r h => words_rd g b n cap zs r w h)
  have HBL := hide hbl
  clear hbl
  go_enter Try.func71, Try.ntmps71
  go_wp2_with fail
  go_loopw [5, 7] (fun x i wr => ∃ (k : Nat) (bl : List Bk) (r : List Int), k ≤ m ∧ i = .int .i64 k ∧ pM pL k r0 = some (bl.map (fun B => B.2.2.2), r) ∧ OBk wr w.heap.size x bl ∧ RdI wr g b n cap zs r ∧ Turn (fun j => j = g) w wr) (fun _ i _ => m - (intOf i).toNat)
  case atStart => exact ⟨0, [], r0, Nat.zero_le _, rfl, rfl, obk_nil _ _, h, Turn.refl _ _⟩
  case round =>
    obtain ⟨k, bl, r, hk, rfl, hp, O, R, T⟩ := hrel
    have hxl : bl.length = k := by have := pM_len hp; simpa using this
    by_cases hlt : k < m
    · have hlt' : (k : Int) < (m : Int) := by omega
      have hsc := pM_succ hp
      have HC := hide (HF.out wr r R)
      have hO := O
      obtain ⟨a, c, rfl⟩ := obk_shape O
      rw [hxl] at hO ⊢
      have HXL := hide hxl
      clear hxl
      go_wp2_with fail
      refine HC.out.mono ?_
      intro e w1 H
      cases hq : pL r with
      | none =>
        obtain ⟨T1, rfl⟩ := H.none hq
        have hN : pM pL m r0 = none := by
          rw [hq] at hsc
          have := pM_none (k := k + 1) hsc (m - (k + 1))
          rwa [show k + 1 + (m - (k + 1)) = m by omega] at this
        unfold panicE
        go_wp2
        exact ⟨rfl, RP.ofNone hN (T.trans (T1.mono (fun j hj => hj)))⟩
      | some x =>
        obtain ⟨x, r'⟩ := x
        obtain ⟨T1, v, rfl, ⟨A, C, rfl, OX⟩, R1⟩ := H.some hq
        rw [hq] at hsc
        have hsc' : pM pL (k + 1) r0 = some ((bl ++ [((A, x.length, C, x) : Bk)]).map (fun B => B.2.2.2), r') := by rw [List.map_append]; exact hsc
        have hlo : ∀ B ∈ bl, ∀ j, (Value.slice B.1 B.2.1 B.2.2.1).ownBlock = some j → j < wr.heap.size := fun B hB j hj => ((hO.rows B hB).2.lt j hj).2
        have O1 := hO.turn T1 (fun j hj => by omega)
        have T2 := T.trans (T1.mono (fun j hj => hj))
        have al : Below w1.heap.size w1 (w1.alloc (.cells #[.slice A x.length C] 24)) := (Below.refl _ _).alloc (Nat.le_refl _) _
        have O2 : OBk (w1.alloc (.cells #[.slice A x.length C] 24)) w.heap.size (.slice a k c) bl := O1.turn (S := fun _ => False) (turn_below al) (fun j hj => absurd hj id)
        have HO1 := hide (show (w1.alloc (.cells #[.slice A x.length C] 24)).ownsRow w.heap.size 24 1 (.slice a k c) k (bl.map fun B => Value.slice B.1 B.2.1 B.2.2.1) by have := O2.head; rw [HXL.out] at this; exact this)
        have HR1 := hide (And.intro R1 (And.intro T2 (And.intro hsc' (And.intro O2 (And.intro (OX.below al) (And.intro hlo T.size))))))
        have hsz := T2.size
        clear R1 T1 T2 T R O O1 O2 OX hsc hsc' H HC hq hp hO hlo al
        go_wp2_with (at_builtin; refine wpList_append_own _ rfl _ _ 25 rfl w.heap.size 24 i0 (.slice none 0 0) 1 24 Try.underlying25 hi hz0 hz1 hz2 rfl (by decide) (.slice a k c) k (bl.map fun B => Value.slice B.1 B.2.1 B.2.2.1) rfl HO1.out ⟨w1.heap.size, 0, none⟩ 1 1 [.slice A x.length C] rfl rfl (cells_new w1 _ _ [.slice A x.length C] rfl) (by intro u hu; simp at hu; subst hu; rfl) (by unfold maxLen; omega) (by omega) (by simp; omega) ?_; intro v' w3 hown3 hgr3 _)
        obtain ⟨R1, T2, hsc', O2, OX, hlo, hTs⟩ := HR1.out
        have T3 : Turn (fun j => j = g) w (w1.alloc (.cells #[.slice A x.length C] 24)) := T2.trans (turn_alloc _ _)
        have hrow : ∀ j, (Value.slice a k c).ownBlock = some j → w.heap.size ≤ j := fun j hj => (O2.lt j hj).1
        have T4 := turn_grown T3 hgr3 hrow
        have R4 := (R1.below ((Below.refl _ _).alloc (Nat.le_refl _) (.cells #[.slice A x.length C] 24))).grown hgr3 hrow hgl HBL.out
        have O4 := O2.push HXL.out OX hTs hlo hown3 hgr3
        have HX := hide (And.intro hsc' (And.intro O4 (And.intro R4 T4)))
        clear hsc' O4 R4 T4 T3 R1 T2 O2 OX hown3 hgr3 hrow HR1 HO1 hlo hTs
        go_roundw
        case rel => exact ⟨k + 1, bl ++ [(A, x.length, C, x)], r', by omega, by go_num, HX.out.1, HX.out.2.1, HX.out.2.2.1, HX.out.2.2.2⟩
        case measure => simp [intOf]; omega
    · obtain rfl : k = m := by omega
      obtain ⟨a, c, rfl⟩ := obk_shape O
      have HX := hide (And.intro hp (And.intro O (And.intro R T)))
      clear hp O R T hxl
      go_wp2
      go_ret
      exact RP.ofSome HX.out.1 HX.out.2.2.2 ⟨bl, rfl, a, c, rfl, HX.out.2.1⟩ HX.out.2.2.1
def Byt (zs : List Int) : Prop := ∀ z ∈ zs, 0 ≤ z ∧ z ≤ 255
theorem Byt.drop {zs : List Int} (h : Byt zs) (k : Nat) : Byt (zs.drop k) := fun z hz => h z (List.mem_of_mem_drop hz)
theorem Byt.take {zs : List Int} (h : Byt zs) (k : Nat) : Byt (zs.take k) := fun z hz => h z (List.mem_of_mem_take hz)
def Gives {α : Type} (p : List Int → Option (α × List Int)) (Q : α → Prop) : Prop := ∀ zs x r, Byt zs → p zs = some (x, r) → Q x ∧ Byt r
theorem gives_pN (s : Nat) (hs : s ≤ 4) : Gives (pN s) (fun x => 0 ≤ x ∧ x ≤ 4294967295 ∧ (s ≤ 2 → x ≤ 65535)) := fun zs x r hz h => by
  refine ⟨pN_range hz hs h, ?_⟩
  obtain ⟨k, _, rfl⟩ := tails_pN s zs x r h
  exact hz.drop k
theorem gives_pN1 : Gives (pN 1) (fun x => 0 ≤ x ∧ x ≤ 255) := fun zs x r hz h => by
  refine ⟨?_, ((gives_pN 1 (by omega)) zs x r hz h).2⟩
  unfold pN at h
  split at h
  · rename_i hl
    simp at h
    rw [← h.1, low1 hl]
    have : zs.getD 0 0 ∈ zs := by simp [List.getD_eq_getElem?_getD, show 0 < zs.length by omega]
    exact hz _ this
  · simp at h
theorem gives_pB (n : Nat) : Gives (pB n) (fun x => x.length = n ∧ Byt x) := fun zs x r hz h => by
  unfold pB at h
  split at h
  · rename_i hl
    simp at h
    rw [← h.1, ← h.2]
    exact ⟨⟨by rw [List.length_take]; omega, hz.take n⟩, hz.drop n⟩
  · simp at h
theorem gives_bind {α β : Type} {p : List Int → Option (α × List Int)} {f : α × List Int → Option (β × List Int)} {Q : α → Prop} {R : β → Prop} (hp : Gives p Q) (hf : ∀ x r y r', Q x → Byt r → f (x, r) = some (y, r') → R y ∧ Byt r') : Gives (fun zs => (p zs).bind f) R := fun zs y r' hz h => by
  cases e : p zs with
  | none => simp only [e] at h; simp at h
  | some x =>
    obtain ⟨x, r⟩ := x
    simp only [e] at h
    obtain ⟨hq, hr⟩ := hp zs x r hz e
    exact hf x r y r' hq hr h
theorem gives_pM {α : Type} {p : List Int → Option (α × List Int)} {Q : α → Prop} (hp : Gives p Q) : ∀ k, Gives (pM p k) (fun xs => ∀ x ∈ xs, Q x)
  | 0 => fun zs xs r hz h => by
    have h' : some (([] : List α), zs) = some (xs, r) := h
    simp at h'
    obtain ⟨rfl, rfl⟩ := h'
    exact ⟨by simp, hz⟩
  | k + 1 => gives_bind (gives_pM hp k) fun xs r ys r' hx hr h => by
    cases e : p r with
    | none => simp only [e] at h; simp at h
    | some y =>
      obtain ⟨y, r2⟩ := y
      simp only [e, Option.map_some] at h
      simp at h
      obtain ⟨hq, hb⟩ := hp r y r2 hr e
      rw [← h.1, ← h.2]
      refine ⟨fun z hz => ?_, hb⟩
      rcases List.mem_append.1 hz with h' | h'
      · exact hx z h'
      · simp at h'; rw [h']; exact hq
theorem strOf_size (x : List Int) : (strOf x).size = x.length := by
  show (x.map fun z => UInt8.ofNat z.toNat).toArray.size = _
  simp
theorem gives_pT : Gives pT (fun s => s.size ≤ 255) := gives_bind gives_pN1 fun n r s r' hn hr h => by
  cases e : pB n.toNat r with
  | none => simp only [e] at h; simp at h
  | some y =>
    obtain ⟨y, r2⟩ := y
    simp only [e, Option.map_some] at h
    simp at h
    obtain ⟨⟨hl, _⟩, hb⟩ := gives_pB n.toNat r y r2 hr e
    rw [← h.1, ← h.2]
    refine ⟨?_, hb⟩
    rw [strOf_size]
    omega
def Wd (x : Int) : Prop := 0 ≤ x ∧ x ≤ 4294967295
theorem gives_pL : Gives pL (fun xs => xs.length ≤ 65535 ∧ ∀ x ∈ xs, Wd x) := gives_bind (gives_pN 2 (by omega)) fun n r xs r' hn hr h => by
  obtain ⟨h1, h2⟩ := gives_pM (gives_pN 4 (by omega)) n.toNat r xs r' hr h
  have hl := pM_len h
  have := hn.2.2 (by omega)
  exact ⟨⟨by omega, fun x hx => ⟨(h1 x hx).1, (h1 x hx).2.1⟩⟩, h2⟩
theorem gives_pX : Gives pX (fun x => x.1.size ≤ 255 ∧ -1 ≤ x.2.1 ∧ x.2.1 ≤ 254 ∧ 0 ≤ x.2.2 ∧ x.2.2 ≤ 65535) := gives_bind gives_pT fun s r x r' hs hr h => by
  refine (gives_bind (R := fun x : Ex => x.1.size ≤ 255 ∧ -1 ≤ x.2.1 ∧ x.2.1 ≤ 254 ∧ 0 ≤ x.2.2 ∧ x.2.2 ≤ 65535) (f := fun y => (pN 2 y.2).map fun z => ((s, y.1 - 1, z.1), z.2)) gives_pN1 (fun y r y2 r2 hy hr h => ?_)) r x r' hr h
  cases e : pN 2 r with
  | none => simp only [e] at h; simp at h
  | some z =>
    obtain ⟨z, r3⟩ := z
    simp only [e, Option.map_some] at h
    simp at h
    obtain ⟨hz, hb⟩ := gives_pN 2 (by omega) r z r3 hr e
    rw [← h.1, ← h.2]
    exact ⟨⟨hs, by show -1 ≤ y - 1; omega, by show y - 1 ≤ 254; omega, hz.1, hz.2.2 (by omega)⟩, hb⟩
structure PmR (P : PMod) : Prop where
  n : P.nm.size ≤ 255
  t : P.tz.length ≤ 65535 ∧ ∀ x ∈ P.tz, Wd x
  b : P.bl.length ≤ 255 ∧ ∀ l ∈ P.bl, l.length ≤ 65535 ∧ ∀ x ∈ l, Wd x
  d : P.dz.length ≤ 65535 ∧ Byt P.dz
  s : 0 ≤ P.bss ∧ P.bss ≤ 65535
  r : P.rz.length ≤ 255 ∧ ∀ x ∈ P.rz, 0 ≤ x ∧ x ≤ 65535
  i : P.ss.length ≤ 255 ∧ ∀ s ∈ P.ss, s.size ≤ 255
  e : P.es.length ≤ 255 ∧ ∀ x ∈ P.es, x.1.size ≤ 255 ∧ -1 ≤ x.2.1 ∧ x.2.1 ≤ 254 ∧ 0 ≤ x.2.2 ∧ x.2.2 ≤ 65535
theorem pm_of {zs r : List Int} {P : PMod} (hz : Byt zs) (h : pMod zs = some (P, r)) : PmR P ∧ Byt r := by
  unfold pMod at h
  simp only [Option.bind_eq_some_iff, Option.map_eq_some_iff] at h
  obtain ⟨⟨a, r1⟩, h1, ⟨b, r2⟩, h2, ⟨nb, r3⟩, h3, ⟨c, r4⟩, h4, ⟨nd, r5⟩, h5, ⟨d, r6⟩, h6, ⟨e, r7⟩, h7, ⟨nr, r8⟩, h8, ⟨f, r9⟩, h9, ⟨ni, r10⟩, h10, ⟨i, r11⟩, h11, ⟨ne, r12⟩, h12, ⟨x, r13⟩, h13, hE⟩ := h
  simp only at h2 h3 h4 h5 h6 h7 h8 h9 h10 h11 h12 h13 hE
  obtain ⟨q1, z1⟩ := gives_pT _ _ _ hz h1
  obtain ⟨q2, z2⟩ := gives_pL _ _ _ z1 h2
  obtain ⟨q3, z3⟩ := gives_pN1 _ _ _ z2 h3
  obtain ⟨q4, z4⟩ := gives_pM gives_pL _ _ _ _ z3 h4
  obtain ⟨q5, z5⟩ := gives_pN 2 (by omega) _ _ _ z4 h5
  obtain ⟨q6, z6⟩ := gives_pB _ _ _ _ z5 h6
  obtain ⟨q7, z7⟩ := gives_pN 2 (by omega) _ _ _ z6 h7
  obtain ⟨q8, z8⟩ := gives_pN1 _ _ _ z7 h8
  obtain ⟨q9, z9⟩ := gives_pM (gives_pN 2 (by omega)) _ _ _ _ z8 h9
  obtain ⟨q10, z10⟩ := gives_pN1 _ _ _ z9 h10
  obtain ⟨q11, z11⟩ := gives_pM gives_pT _ _ _ _ z10 h11
  obtain ⟨q12, z12⟩ := gives_pN1 _ _ _ z11 h12
  obtain ⟨q13, z13⟩ := gives_pM gives_pX _ _ _ _ z12 h13
  have l4 := pM_len h4
  have l9 := pM_len h9
  have l11 := pM_len h11
  have l13 := pM_len h13
  simp at hE
  obtain ⟨rfl, rfl⟩ := hE
  have b5 := q5.2.2 (by omega)
  have b7 := q7.2.2 (by omega)
  exact ⟨⟨q1, q2, ⟨by show c.length ≤ 255; omega, q4⟩, ⟨by show d.length ≤ 65535; omega, q6.2⟩, ⟨q7.1, b7⟩, ⟨by show f.length ≤ 255; omega, fun x hx => ⟨(q9 x hx).1, (q9 x hx).2.2 (by omega)⟩⟩, ⟨by show i.length ≤ 255; omega, q11⟩, ⟨by show x.length ≤ 255; omega, q13⟩⟩, z13⟩
end Go.Proofs.Ytngdgogjlpjjpad
