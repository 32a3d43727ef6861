import Derived.Test.YtngdgogjlpjjpacJ25
import Derived.Laws.IdiomStrings
namespace Go.Proofs.Ytngdgogjlpjjpac
open Go.RowKit
set_option linter.unusedVariables false
set_option linter.unusedSimpArgs false
set_option maxRecDepth 100000

/-- THE PARSER, as a function of what is left of the bytes. -/
def pN (s : Nat) (zs : List Int) : Option (Int × List Int) := if s ≤ zs.length then some (low (zs.take s), zs.drop s) else none
def pB (n : Nat) (zs : List Int) : Option (List Int × List Int) := if n ≤ zs.length then some (zs.take n, zs.drop n) else none
def strOf (bs : List Int) : ByteArray := ⟨(bs.map fun z => UInt8.ofNat z.toNat).toArray⟩
def pT (zs : List Int) : Option (ByteArray × List Int) := (pN 1 zs).bind fun x => (pB x.1.toNat x.2).map fun y => (strOf y.1, y.2)
/-- k elements, one behind the other -/
def pM {α : Type} (p : List Int → Option (α × List Int)) : Nat → List Int → Option (List α × List Int)
  | 0, zs => some ([], zs)
  | k + 1, zs => (pM p k zs).bind fun x => (p x.2).map fun y => (x.1 ++ [y.1], y.2)
def pL (zs : List Int) : Option (List Int × List Int) := (pN 2 zs).bind fun x => pM (pN 4) x.1.toNat x.2
def pX (zs : List Int) : Option (Ex × List Int) := (pT zs).bind fun x => (pN 1 x.2).bind fun y => (pN 2 y.2).map fun z => ((x.1, y.1 - 1, z.1), z.2)
/-- a module as it was read -/
structure PMod where
  nm : ByteArray
  tz : List Int
  bl : List (List Int)
  dz : List Int
  bss : Int
  rz : List Int
  ss : List ByteArray
  es : List Ex
def pMod (zs : List Int) : Option (PMod × List Int) :=
  (pT zs).bind fun a => (pL a.2).bind fun b => (pN 1 b.2).bind fun nb => (pM pL nb.1.toNat nb.2).bind fun c => (pN 2 c.2).bind fun nd => (pB nd.1.toNat nd.2).bind fun d => (pN 2 d.2).bind fun e => (pN 1 e.2).bind fun nr => (pM (pN 2) nr.1.toNat nr.2).bind fun f => (pN 1 f.2).bind fun ni => (pM pT ni.1.toNat ni.2).bind fun g => (pN 1 g.2).bind fun ne => (pM pX ne.1.toNat ne.2).map fun h => (⟨a.1, b.1, c.1, d.1, e.1, f.1, g.1, h.1⟩, h.2)

theorem pN_some {s : Nat} {zs : List Int} (h : s ≤ zs.length) : pN s zs = some (low (zs.take s), zs.drop s) := if_pos h
theorem pN_none {s : Nat} {zs : List Int} (h : ¬ s ≤ zs.length) : pN s zs = none := if_neg h
theorem pB_some {s : Nat} {zs : List Int} (h : s ≤ zs.length) : pB s zs = some (zs.take s, zs.drop s) := if_pos h
theorem pB_none {s : Nat} {zs : List Int} (h : ¬ s ≤ zs.length) : pB s zs = none := if_neg h
theorem pM_none {α : Type} {p : List Int → Option (α × List Int)} {k : Nat} {zs : List Int} (h : pM p k zs = none) : ∀ j, pM p (k + j) zs = none
  | 0 => h
  | j + 1 => by
    show (pM p (k + j) zs).bind _ = none
    rw [pM_none h j]; rfl
theorem pM_succ {α : Type} {p : List Int → Option (α × List Int)} {k : Nat} {zs r : List Int} {xs : List α} (h : pM p k zs = some (xs, r)) : pM p (k + 1) zs = (p r).map fun y => (xs ++ [y.1], y.2) := by
  show (pM p k zs).bind _ = _
  rw [h]; rfl
theorem pM_len {α : Type} {p : List Int → Option (α × List Int)} : ∀ {k : Nat} {zs r : List Int} {xs : List α}, pM p k zs = some (xs, r) → xs.length = k
  | 0, zs, r, xs, h => by
    have h' : some (([] : List α), zs) = some (xs, r) := h
    simp at h'
    simp [← h'.1]
  | k + 1, zs, r, xs, h => by
    have h' : (pM p k zs).bind (fun x => (p x.2).map fun y => (x.1 ++ [y.1], y.2)) = some (xs, r) := h
    cases e : pM p k zs with
    | none => rw [e] at h'; simp at h'
    | some x =>
      obtain ⟨ys, r'⟩ := x
      have ih := pM_len e
      rw [e] at h'
      simp only [Option.bind_some, Option.map_eq_some_iff] at h'
      obtain ⟨y, _, h2⟩ := h'
      simp at h2
      rw [← h2.1]
      simp [ih]
/-- what is left is a tail of what was there -/
def Tails {α : Type} (p : List Int → Option (α × List Int)) : Prop := ∀ zs x r, p zs = some (x, r) → ∃ k, k ≤ zs.length ∧ r = zs.drop k
theorem tails_pN (s : Nat) : Tails (pN s) := fun zs x r h => by
  unfold pN at h
  split at h
  · simp at h; exact ⟨s, by assumption, h.2.symm⟩
  · simp at h
theorem tails_pB (s : Nat) : Tails (pB s) := fun zs x r h => by
  unfold pB at h
  split at h
  · simp at h; exact ⟨s, by assumption, h.2.symm⟩
  · simp at h
end Go.Proofs.Ytngdgogjlpjjpac

namespace Go.Proofs.Ytngdgogjlpjjpac
open Go.RowKit
set_option linter.unusedVariables false
set_option linter.unusedSimpArgs false
set_option maxRecDepth 100000

/-- the reader's panic -/
def panicE (c : Int) : Ending := .panicked [{ v := .iface 114 (.int .i64 c), recovered := false }]
/-- THE PROGRAM'S READER: its box at g, the bytes at b, what is left of them. -/
structure RdI (W : World) (g b n cap : Nat) (zs r : List Int) : Prop where
  pos : ∃ k a, k ≤ n ∧ r = zs.drop k ∧ Blk W g #[.slice (some ⟨b, a, none⟩) (n - k) (cap - k)] 116 ∧ (cap - k ≠ 0 → a = k)
  bs : BS W (some ⟨b, 0, none⟩) n cap zs
  ne : b ≠ g
  small : n ≤ 1048576
theorem RdI.below {W W' : World} {g b n cap : Nat} {zs r : List Int} (h : RdI W g b n cap zs r) (hb : Below W.heap.size W W') : RdI W' g b n cap zs r := by
  obtain ⟨k, a, h1, h2, h3, h4⟩ := h.pos
  exact ⟨⟨k, a, h1, h2, h3.below hb, h4⟩, h.bs.below hb, h.ne, h.small⟩
theorem RdI.range {W : World} {g b n cap : Nat} {zs r : List Int} (h : RdI W g b n cap zs r) : ∀ z ∈ r, 0 ≤ z ∧ z ≤ 255 := by
  obtain ⟨k, a, h1, rfl, h3, h4⟩ := h.pos
  exact fun z hz => h.bs.2.2.1 z (List.mem_of_mem_drop hz)
/-- WHAT A READING GIVES: a value that R tells of and the reader behind it; or the panic. The reader's box alone is written. -/
def RP {α : Type} (w : World) (g b n cap : Nat) (zs : List Int) (R : α → Value → World → Prop) (p : Option (α × List Int)) (e : Ending) (w' : World) : Prop :=
  Turn (fun j => j = g) w w' ∧ match p with
    | some x => ∃ v, e = .returned v ∧ R x.1 v w' ∧ RdI w' g b n cap zs x.2
    | none => e = panicE 2
theorem turn_set (w : World) (g i : Nat) (v : Value) : Turn (fun j => j = g) w (w.setCell ⟨g, i, none⟩ v) := ⟨rfl, rfl, rfl, by rw [size_setCell]; exact Nat.le_refl _, fun k _ hk => heap_setCell_other _ _ _ _ hk⟩
/-- a slice of bytes that reads as x -/
def isB (x : List Int) (v : Value) (w : World) : Prop := ∃ b k c, v = .slice (some ⟨b, k, none⟩) x.length c ∧ BS w (some ⟨b, k, none⟩) x.length c x

theorem RdI.set {W : World} {g b n cap : Nat} {zs r : List Int} (h : RdI W g b n cap zs r) (k a : Nat) (hk : k ≤ n) (ha : cap - k ≠ 0 → a = k) (v : Value) (hv : v = .slice (some ⟨b, a, none⟩) (n - k) (cap - k)) : RdI (W.setCell ⟨g, 0, none⟩ v) g b n cap zs (zs.drop k) := by
  obtain ⟨k', a', h1, h2, h3, h4⟩ := h.pos
  refine ⟨⟨k, a, hk, rfl, ?_, ha⟩, turn_bs (turn_set W g 0 v) h.bs (fun j hj b' off e => by simp at e; rw [hj, ← e.1]; exact h.ne), h.ne, h.small⟩
  rw [← hv]
  simpa using h3.set 0 v

set_option maxHeartbeats 1000000 in
theorem take_any (g b n cap : Nat) (zs r : List Int) (m : Nat) (w : World) (h : RdI w g b n cap zs r) (hm : m ≤ 1048576) :
    Calls Try.prog 126 #[.pointer (some ⟨g, 0, none⟩), .int .i64 m] w (RP w g b n cap zs isB (pB m r)) := by
  obtain ⟨k, a, hk, hr, hb, ha⟩ := h.pos
  have hl := h.bs.1
  have hcap := h.bs.2.2.2.2
  have hsm := h.small
  have hrl : r.length = n - k := by rw [hr, List.length_drop, hl]
  have q0 := hb.cell 0
  have f0 := hb.frozen 0
  simp at q0
  by_cases c : m ≤ r.length
  · have hc : m ≤ n - k := by omega
    have hp : pB m r = some (r.take m, r.drop m) := pB_some c
    rw [hp]
    have hlt : (r.take m).length = m := by rw [List.length_take]; omega
    have hrd : r.drop m = zs.drop (k + m) := by rw [hr, List.drop_drop]
    have hB1 : BS w (some ⟨b, a, none⟩) m (cap - k) (r.take m) := by
      by_cases hz : cap - k = 0
      · have : m = 0 := by omega
        subst this
        exact ⟨by simp, by unfold maxLen; omega, by simp, fun h => absurd rfl h, by omega⟩
      · have := (h.bs.drop k hk).take m hc
        rw [Nat.zero_add] at this
        rw [ha hz, hr]
        exact this
    have hx1 : (m : Int) ≤ ((n - k : Nat) : Int) := by omega
    have hx2 : ((n - k : Nat) : Int) ≤ ((cap - k : Nat) : Int) := by omega
    have hx0 : ¬ (((n - k : Nat) : Int) < (m : Int)) := by omega
    by_cases hcm : cap - k = m
    · have hck : n - k = m := by omega
      rw [hcm] at hB1
      have HP := hide (And.intro hB1 (And.intro h (And.intro hrd (And.intro hlt (show cap - (k + m) = 0 by omega)))))
      have hkm : k + m ≤ n := by omega
      have HW := hide (show n - (k + m) = 0 by omega)
      clear h hp hB1 hb hr hrl c hrd hlt ha hx0 hx1 hx2 hc
      rw [hck, hcm] at q0
      clear hck hcm
      go_enter Try.func126, Try.ntmps126
      go_wp2
      go_ret
      obtain ⟨hB1, h, hrd, hlt, hce⟩ := HP.out
      refine ⟨turn_set _ _ _ _, _, rfl, ⟨b, a, m, by rw [hlt]; rfl, ?_⟩, ?_⟩
      · rw [hlt]
        exact turn_bs (turn_set _ _ _ _) hB1 (fun j hj b' off e => by simp at e; rw [hj, ← e.1]; exact h.ne)
      · rw [hrd]
        refine h.set (k + m) a hkm (fun e => absurd hce e) _ ?_
        rw [HW.out, hce]
        try simp
    · have ha' := ha (by omega)
      subst ha'
      have HP := hide (And.intro hB1 (And.intro h (And.intro hrd hlt)))
      have hkm : a + m ≤ n := by omega
      clear h hp hB1 hb hr hrl c hrd hlt ha
      go_enter Try.func126, Try.ntmps126
      go_wp2
      go_ret
      obtain ⟨hB1, h, hrd, hlt⟩ := HP.out
      refine ⟨turn_set _ _ _ _, _, rfl, ⟨b, a, cap - a, by rw [hlt]; rfl, ?_⟩, ?_⟩
      · rw [hlt]
        exact turn_bs (turn_set _ _ _ _) hB1 (fun j hj b' off e => by simp at e; rw [hj, ← e.1]; exact h.ne)
      · rw [hrd]
        refine h.set (a + m) (a + m) hkm (fun e => rfl) _ ?_
        rw [Nat.sub_sub, Nat.sub_sub]
  · have hc : ((n - k : Nat) : Int) < (m : Int) := by omega
    rw [pB_none c]
    clear h hr hb
    go_enter Try.func126, Try.ntmps126
    go_wp2
    exact ⟨rfl, Turn.refl _ _, rfl⟩

/-- the panic goes on -/
theorem RP.none {α : Type} {w w' : World} {g b n cap : Nat} {zs : List Int} {R : α → Value → World → Prop} {p : Option (α × List Int)} {e : Ending} (h : RP w g b n cap zs R p e w') (hp : p = none) : Turn (fun j => j = g) w w' ∧ e = panicE 2 := by
  subst hp
  exact h
theorem RP.some {α : Type} {w w' : World} {g b n cap : Nat} {zs : List Int} {R : α → Value → World → Prop} {p : Option (α × List Int)} {e : Ending} {x : α} {r : List Int} (h : RP w g b n cap zs R p e w') (hp : p = Option.some (x, r)) : Turn (fun j => j = g) w w' ∧ ∃ v, e = .returned v ∧ R x v w' ∧ RdI w' g b n cap zs r := by
  subst hp
  exact h
theorem RP.ofNone {α : Type} {w w' : World} {g b n cap : Nat} {zs : List Int} {R : α → Value → World → Prop} {p : Option (α × List Int)} (hp : p = Option.none) (h : Turn (fun j => j = g) w w') : RP w g b n cap zs R p (panicE 2) w' := by
  subst hp
  exact ⟨h, rfl⟩
theorem RP.ofSome {α : Type} {w w' : World} {g b n cap : Nat} {zs : List Int} {R : α → Value → World → Prop} {p : Option (α × List Int)} {v : Value} {x : α} {r : List Int} (hp : p = Option.some (x, r)) (h : Turn (fun j => j = g) w w') (hv : R x v w') (hr : RdI w' g b n cap zs r) : RP w g b n cap zs R p (.returned v) w' := by
  subst hp
  exact ⟨h, v, rfl, hv, hr⟩
def isN (x : Int) (v : Value) (w : World) : Prop := v = .int .i64 x
theorem getBytes_any (b off n cap s : Nat) (zs : List Int) (w : World) (h : BS w (some ⟨b, off, none⟩) n cap zs) (hs : s = 1 ∨ s = 2 ∨ s = 4) (hn : s ≤ n) :
    Calls Try.prog 53 #[.slice (some ⟨b, off, none⟩) n cap, .int .i64 s] w fun e w' => e = .returned (.int .i64 (low (zs.take s))) ∧ Below w.heap.size w w' := by
  rcases hs with rfl | rfl | rfl
  · exact getBytes_1 b off n cap zs w h hn
  · exact getBytes_2 b off n cap zs w h hn
  · exact getBytes_4 b off n cap zs w h hn

set_option maxHeartbeats 1000000 in
theorem number_rd (g b n cap : Nat) (zs r : List Int) (s : Nat) (w : World) (h : RdI w g b n cap zs r) (hs : s = 1 ∨ s = 2 ∨ s = 4) :
    Calls Try.prog 130 #[.pointer (some ⟨g, 0, none⟩), .int .i64 s] w (RP w g b n cap zs isN (pN s r)) := by
  have HT := hide (take_any g b n cap zs r s w h (by omega))
  by_cases c : s ≤ r.length
  · have hlt : (r.take s).length = s := by rw [List.length_take]; omega
    have htt : (r.take s).take s = r.take s := by rw [List.take_take, Nat.min_self]
    rw [pN_some c]
    go_enter Try.func130, Try.ntmps130
    go_wp2_with fail
    refine HT.out.mono ?_
    intro e w1 H
    obtain ⟨T1, v, rfl, ⟨b', k, c', rfl, hB⟩, R1⟩ := H.some (pB_some c)
    rw [hlt] at hB ⊢
    have HG := hide (getBytes_any b' k s c' s (r.take s) w1 hB hs (Nat.le_refl _))
    rw [htt] at HG
    have HR := hide (And.intro T1 R1)
    clear T1 R1 hB
    go_wp2_with fail
    refine HG.out.mono ?_
    rintro e w2 ⟨rfl, hb2⟩
    have HR2 := hide (And.intro (HR.out.1.trans (turn_below hb2)) (HR.out.2.below hb2))
    go_wp2
    go_ret
    exact ⟨HR2.out.1, _, rfl, rfl, HR2.out.2⟩
  · rw [pN_none c]
    go_enter Try.func130, Try.ntmps130
    go_wp2_with fail
    refine HT.out.mono ?_
    intro e w1 H
    obtain ⟨T1, rfl⟩ := H.none (pB_none c)
    unfold panicE
    go_wp2
    exact ⟨rfl, T1, rfl⟩

theorem count_rd (g b n cap : Nat) (zs r : List Int) (w : World) (h : RdI w g b n cap zs r) :
    Calls Try.prog 131 #[.pointer (some ⟨g, 0, none⟩)] w (RP w g b n cap zs isN (pN 2 r)) := by
  have HN := hide (number_rd g b n cap zs r 2 w h (Or.inr (Or.inl rfl)))
  go_enter Try.func131, Try.ntmps131
  go_wp2_with fail
  refine HN.out.mono ?_
  intro e w1 H
  cases hp : pN 2 r with
  | none =>
    obtain ⟨T1, rfl⟩ := H.none hp
    unfold panicE
    go_wp2
    exact ⟨rfl, RP.ofNone rfl T1⟩
  | some x =>
    obtain ⟨T1, v, rfl, hv, R1⟩ := H.some hp
    go_wp2
    go_ret
    exact RP.ofSome hp T1 hv R1
theorem word_rd (g b n cap : Nat) (zs r : List Int) (w : World) (h : RdI w g b n cap zs r) :
    Calls Try.prog 142 #[.pointer (some ⟨g, 0, none⟩)] w (RP w g b n cap zs isN (pN 4 r)) := by
  have HN := hide (number_rd g b n cap zs r 4 w h (Or.inr (Or.inr rfl)))
  go_enter Try.func142, Try.ntmps142
  go_wp2_with fail
  refine HN.out.mono ?_
  intro e w1 H
  cases hp : pN 4 r with
  | none =>
    obtain ⟨T1, rfl⟩ := H.none hp
    unfold panicE
    go_wp2
    exact ⟨rfl, RP.ofNone rfl T1⟩
  | some x =>
    obtain ⟨T1, v, rfl, hv, R1⟩ := H.some hp
    go_wp2
    go_ret
    exact RP.ofSome hp T1 hv R1

/-- a text -/
def isS (x : ByteArray) (v : Value) (w : World) : Prop := v = .string x
theorem low1 {zs : List Int} (h : 1 ≤ zs.length) : low (zs.take 1) = zs.getD 0 0 := by
  rw [take1 zs h]
  show low [] * 256 + _ = _ <;> simp [low]
theorem run_text (w : World) (b k c : Nat) (x : List Int) (h : BS w (some ⟨b, k, none⟩) x.length c x) : (convert 22 9 (.slice (some ⟨b, k, none⟩) x.length c)).run Try.prog w = .ok (.string (strOf x)) w := by
  have hl : (x.map fun z => UInt8.ofNat z.toNat).length = x.length := by simp
  have := run_convert_bytes_back (P := Try.prog) w 22 9 5 ⟨b, k, none⟩ c (x.map fun z => UInt8.ofNat z.toNat) Try.underlying22 Try.underlying5 Try.underlying9 (fun j hj => by
    have hj' : j < x.length := by simpa using hj
    rw [addr_add, h.at j hj']
    have hz := h.range j
    have e1 : x.getD j 0 = x[j] := by simp [List.getD_eq_getElem?_getD, hj']
    have e2 : (UInt8.ofNat (x[j]).toNat).toNat = (x[j]).toNat % 256 := UInt8.toNat_ofNat'
    rw [List.getElem_map, e2, e1]
    rw [e1] at hz
    congr 2
    omega)
  rw [hl] at this
  exact this

set_option maxHeartbeats 1000000 in
theorem text_rd (g b n cap : Nat) (zs r : List Int) (w : World) (h : RdI w g b n cap zs r) :
    Calls Try.prog 127 #[.pointer (some ⟨g, 0, none⟩)] w (RP w g b n cap zs isS (pT r)) := by
  have HN := hide (number_rd g b n cap zs r 1 w h (Or.inl rfl))
  by_cases c : 1 ≤ r.length
  · have hp := pN_some (s := 1) c
    have hrg := h.range
    have hx : 0 ≤ low (r.take 1) ∧ low (r.take 1) ≤ 4294967295 := low_small _ (fun z hz => hrg z (List.mem_of_mem_take hz)) (by rw [List.length_take]; omega)
    have hx2 : low (r.take 1) ≤ 255 := by
      rw [low1 c]
      have : r.getD 0 0 ∈ r := by simp [List.getD_eq_getElem?_getD, show 0 < r.length by omega]
      exact (hrg _ this).2
    have hPT : pT r = (pB (low (r.take 1)).toNat (r.drop 1)).map fun y => (strOf y.1, y.2) := by unfold pT; rw [hp]; rfl
    rw [hPT]
    obtain ⟨m, hm⟩ : ∃ m : Nat, low (r.take 1) = (m : Int) := ⟨(low (r.take 1)).toNat, by omega⟩
    rw [hm] at hp hx hx2 ⊢
    rw [Int.toNat_natCast]
    clear hPT
    have hm' : m ≤ 255 := by omega
    go_enter Try.func127, Try.ntmps127
    go_wp2_with fail
    refine HN.out.mono ?_
    intro e w1 H
    obtain ⟨T1, v, rfl, hv, R1⟩ := H.some hp
    obtain rfl : v = .int .i64 m := hv
    have HT := hide (take_any g b n cap zs (r.drop 1) m w1 R1 (by omega))
    clear H HN
    go_wp2_with fail
    refine HT.out.mono ?_
    intro e w2 H
    cases hq : pB m (r.drop 1) with
    | none =>
      obtain ⟨T2, rfl⟩ := H.none hq
      unfold panicE
      go_wp2
      exact ⟨rfl, RP.ofNone (by rw [hq]; rfl) (T1.trans T2)⟩
    | some x =>
      obtain ⟨x, r'⟩ := x
      obtain ⟨T2, v, rfl, ⟨b', k, c', rfl, hB⟩, R2⟩ := H.some hq
      have hcv := run_text w2 b' k c' x hB
      have HR := hide (And.intro (T1.trans T2) R2)
      clear T1 T2 R1 R2 hB H HT
      go_wp2
      go_ret
      exact RP.ofSome (x := strOf x) (r := r') (by rw [hq]; rfl) HR.out.1 rfl HR.out.2
  · have hp := pN_none (s := 1) c
    have hPT : pT r = none := by unfold pT; rw [hp]; rfl
    rw [hPT]
    go_enter Try.func127, Try.ntmps127
    go_wp2_with fail
    refine HN.out.mono ?_
    intro e w1 H
    obtain ⟨T1, rfl⟩ := H.none hp
    unfold panicE
    go_wp2
    exact ⟨rfl, RP.ofNone rfl T1⟩
end Go.Proofs.Ytngdgogjlpjjpac
