import Derived.Test.YtngdgogjlpjjpaeGreatJ20
import Derived.Deep.RegionHeld3
import Derived.Test.YtngdgogjlpjjpaeGreatJ16
import Derived.Laws.IdiomStrings
namespace Go.Proofs.YtngdgogjlpjjpaeGreat
open Go.RowKit
set_option linter.unusedVariables false
set_option linter.unusedSimpArgs false
set_option maxRecDepth 100000

theorem snd4_1 {ps : List PMod} {s w k d : Int} (h : cfo s w k d = false) : snd4 ps s w k d = 1 := if_pos h
theorem snd4_2 {ps : List PMod} {s w k d : Int} (h : cfo s w k d = true) (h2 : ps.length < 1 ∨ 4 < ps.length) : snd4 ps s w k d = 2 := by
  unfold snd4; rw [if_neg (by rw [h]; decide), if_pos h2]
theorem snd4_3 {ps : List PMod} {s w k d : Int} (h : cfo s w k d = true) (h2 : ¬ (ps.length < 1 ∨ 4 < ps.length)) (i : Nat) (hi : i < ps.length) (h3 : mdoP (ps.getD i zP) ≠ 0) : snd4 ps s w k d = 3 := by
  unfold snd4; rw [if_neg (by rw [h]; decide), if_neg h2, if_pos (fun v => h3 (v i hi))]
theorem snd4_4 {ps : List PMod} {s w k d : Int} (h : cfo s w k d = true) (h2 : ¬ (ps.length < 1 ∨ 4 < ps.length)) (h3 : vlds ps) (i j : Nat) (hi : i < ps.length) (hj : j < i) (h4 : (ps.getD j zP).nm = (ps.getD i zP).nm) : snd4 ps s w k d = 4 := by
  unfold snd4; rw [if_neg (by rw [h]; decide), if_neg h2, if_neg (fun v => v h3), if_pos (fun v => v i hi j hj h4)]
theorem snd4_0 {ps : List PMod} {s w k d : Int} (h : cfo s w k d = true) (h2 : ¬ (ps.length < 1 ∨ 4 < ps.length)) (h3 : vlds ps) (h4 : nms ps) : snd4 ps s w k d = 0 := by
  unfold snd4; rw [if_neg (by rw [h]; decide), if_neg h2, if_neg (fun v => v h3), if_neg (fun v => v h4)]
theorem below_dN {B : Nat} {a W : World} (h : Below B a W) (n : Nat) : Below B a (W.drewN n) := ⟨h.os, h.tape, h.output, h.size, h.block⟩
theorem str_ne {a b : ByteArray} (h : a ≠ b) : (a.toList == b.toList) = false := by
  rw [beq_eq_false_iff_ne]
  intro e
  apply h
  rw [ByteArray.toList_eq, ByteArray.toList_eq] at e
  cases a
  cases b
  simp at e
  rw [e]

set_option maxHeartbeats 1000000 in
theorem l5Round_any (x : Int) (w : World) (h0 : 0 ≤ x) (h1 : x ≤ 4294967295) : Calls Tryz.prog 136 #[.int .i64 x] w fun e w' => e = .returned (.int .i64 (rnd x)) ∧ w' = w := by
  have hd : (x + 31).tdiv 32 = (x + 31) / 32 := Int.tdiv_eq_ediv_of_nonneg (by omega)
  go_enter Tryz.func136, Tryz.ntmps136
  go_wp2
  go_ret
  exact ⟨ret_int (by unfold rnd; rw [show x + 31 = x + 32 - 1 by omega]), rfl⟩

theorem Md.okS {m : Md} {w : World} (h : m.md w) : Calls Tryz.prog 154 #[.agg #[.string m.nm, .slice m.ta m.tn m.tc, .slice m.ba m.bn m.bc, .slice m.da m.dn m.dc, .int .i64 m.bss, .slice m.ra m.rn m.rc, .slice m.ia m.im m.ic, .slice m.ea m.en m.ec]] w fun e w' => e = .returned (.int .i64 (mdoP m.pm)) ∧ Below w.heap.size w w' := by
  have := sModuleOk_any _ _ _ _ _ _ _ _ _ _ _ _ _ _ _ _ _ _ _ _ _ _ _ _ _ _ w h
  rw [md_mdo h] at this
  exact this

set_option maxHeartbeats 4000000 in
theorem l5Sound_any (a : Option Addr) (n cap : Nat) (ms : List Md) (s c k d : Int) (w : World) (h : MSD w a n cap ms) :
    Calls Tryz.prog 159 #[.slice a n cap, .agg #[.int .i64 s, .int .i64 c, .int .i64 k, .int .i64 d]] w fun e w' => e = .returned (.int .i64 (snd4 (pmS ms) s c k d)) ∧ Below w.heap.size w w' := by
  have hA : Below w.heap.size w (w.alloc (.cells #[.int .i64 s, .int .i64 c, .int .i64 k, .int .i64 d] 44)) := (Below.refl _ _).alloc (Nat.le_refl _) _
  have hl := h.s.1
  have hm1 := h.s.2.1
  unfold maxLen at hm1
  have hpl := pmS_len ms
  have HH := hide h
  have HC := hide (fun W => sConfigOk_any s c k d W)
  clear h
  go_enter Tryz.func159, Tryz.ntmps159
  go_wp2_with fail
  refine (HC.out _).mono ?_
  rintro e w1 ⟨rfl, hb1⟩
  have HB1 := hide (hA.trans (hb1.mono (by simp)))
  clear hA hb1 HC
  cases hcf : cfo s c k d with
  | false =>
    have HS := hide (snd4_1 (ps := pmS ms) hcf)
    go_wp2
    go_ret
    exact ⟨ret_int HS.out.symm, HB1.out⟩
  | true =>
    by_cases hn2 : n < 1 ∨ 4 < n
    · have HS := hide (snd4_2 (ps := pmS ms) hcf (by omega))
      by_cases hn1 : n < 1
      · have hn1' : (n : Int) < 1 := by omega
        clear hn2
        go_wp2
        go_ret
        exact ⟨ret_int HS.out.symm, HB1.out⟩
      · have hn1' : ¬ (n : Int) < 1 := by omega
        have hn4' : (4 : Int) < (n : Int) := by omega
        clear hn2
        go_wp2
        go_ret
        exact ⟨ret_int HS.out.symm, HB1.out⟩
    have hn1' : ¬ (n : Int) < 1 := by omega
    have hn4' : ¬ (4 : Int) < (n : Int) := by omega
    have HN2 := hide (show ¬ ((pmS ms).length < 1 ∨ 4 < (pmS ms).length) by rw [hpl, hl]; exact hn2)
    clear hn2
    go_wp2
    go_loopw [5] (fun i wr => ∃ m : Nat, m ≤ n ∧ i = .int .i64 m ∧ (∀ j, j < m → mdoP ((pmS ms).getD j zP) = 0) ∧ Below w.heap.size w wr) (fun i _ => n - (intOf i).toNat)
    case atStart => exact ⟨0, Nat.zero_le _, rfl, fun j hj => absurd hj (by omega), HB1.out⟩
    case round =>
      obtain ⟨m, hm, rfl, hv, B⟩ := hrel
      by_cases hlt : m < n
      · have hlt' : (m : Int) < (n : Int) := by omega
        have H := HH.out.below B
        obtain ⟨b, off, rfl, q0, q1, q2, q3, q4, q5, q6, q7⟩ := H.s.at m hlt
        have HOK := hide (Md.okS (H.d m hlt))
        rw [← pmS_at (by omega)] at HOK
        have HV := hide hv
        have HB := hide B
        obtain ⟨V, hV⟩ : ∃ V, V = mdoP ((pmS ms).getD m zP) := ⟨_, rfl⟩
        rw [← hV] at HOK
        have HVV := hide hV
        generalize ms.getD m zMd = M at *
        clear hv B H hV
        go_wp2_with fail
        refine HOK.out.mono ?_
        rintro e w2 ⟨rfl, hb2⟩
        have HB2 := hide (HB.out.trans (hb2.mono HB.out.size))
        clear hb2 HOK HB q0 q1 q2 q3 q4 q5 q6 q7
        by_cases hz : V = 0
        · subst hz
          have HV2 := hide (show ∀ j, j < m + 1 → mdoP ((pmS ms).getD j zP) = 0 from fun j hj => by
            by_cases e : j = m
            · subst e; exact HVV.out.symm
            · exact HV.out j (by omega))
          go_wp2
          go_roundw
          case rel => exact ⟨m + 1, by omega, by go_num, HV2.out, HB2.out⟩
          case measure => simp [intOf]; omega
        · have hz' : (V != 0) = true := by simp [hz]
          have HS := hide (snd4_3 (ps := pmS ms) hcf HN2.out m (by omega) (by rw [← HVV.out]; exact hz))
          go_wp2
          go_ret
          exact ⟨ret_int HS.out.symm, HB2.out⟩
      · have hlt' : ¬ (m : Int) < (n : Int) := by omega
        have HV := hide (show vlds (pmS ms) from fun i hi => hv i (by omega))
        have HB := hide B
        clear hv B
        go_wp2
        go_loopw [6] (fun i wr => ∃ m : Nat, m ≤ n ∧ i = .int .i64 m ∧ (∀ i, i < m → ∀ k, k < i → ((pmS ms).getD k zP).nm ≠ ((pmS ms).getD i zP).nm) ∧ Below w.heap.size w wr) (fun i _ => n - (intOf i).toNat)
        case atStart => exact ⟨0, Nat.zero_le _, rfl, fun j hj => absurd hj (by omega), HB.out⟩
        case round =>
          obtain ⟨p, hp, rfl, hv, B⟩ := hrel
          by_cases hlt2 : p < n
          · have hlt2' : (p : Int) < (n : Int) := by omega
            have HP := hide hv
            have HB3 := hide B
            clear hv B
            go_wp2
            go_loopw [7] (fun i wr => ∃ q : Nat, q ≤ p ∧ i = .int .i64 q ∧ (∀ k, k < q → ((pmS ms).getD k zP).nm ≠ ((pmS ms).getD p zP).nm) ∧ Below w.heap.size w wr) (fun i _ => p - (intOf i).toNat)
            case atStart => exact ⟨0, Nat.zero_le _, rfl, fun j hj => absurd hj (by omega), HB3.out⟩
            case round =>
              obtain ⟨q, hq, rfl, hv, B⟩ := hrel
              by_cases hlt3 : q < p
              · have hlt3' : (q : Int) < (p : Int) := by omega
                have hqn : (q : Int) < (n : Int) := by omega
                have H := HH.out.below B
                obtain ⟨b, off, rfl, q0, _⟩ := H.s.at q (by omega)
                obtain ⟨b', off', e', r0, _⟩ := H.s.at p hlt2
                simp at e'
                obtain ⟨rfl, rfl⟩ := e'
                have e1 : ((pmS ms).getD q zP).nm = (ms.getD q zMd).nm := by rw [pmS_at (by omega)]; rfl
                have e2 : ((pmS ms).getD p zP).nm = (ms.getD p zMd).nm := by rw [pmS_at (by omega)]; rfl
                have HQ := hide hv
                have HB4 := hide B
                by_cases hnm : (ms.getD q zMd).nm = (ms.getD p zMd).nm
                · have HS := hide (snd4_4 (ps := pmS ms) hcf HN2.out HV.out p q (by omega) hlt3 (by rw [e1, e2]; exact hnm))
                  rw [hnm] at q0
                  have heq : ((ms.getD p zMd).nm.toList == (ms.getD p zMd).nm.toList) = true := by simp
                  generalize ms.getD p zMd = M at *
                  clear hv B H e1 e2 hnm
                  go_wp2_with fail
                  go_quiet (fail)
                  go_wp2
                  go_ret
                  exact ⟨ret_int HS.out.symm, below_dN HB4.out nq⟩
                · have hne := str_ne hnm
                  have HQ2 := hide (show ∀ k, k < q + 1 → ((pmS ms).getD k zP).nm ≠ ((pmS ms).getD p zP).nm from fun k hk => by
                    by_cases e : k = q
                    · subst e; rw [e1, e2]; exact hnm
                    · exact HQ.out k (by omega))
                  generalize (ms.getD p zMd).nm = N1 at *
                  generalize (ms.getD q zMd).nm = N2 at *
                  clear hv B H e1 e2 hnm
                  go_wp2_with fail
                  go_quiet (fail)
                  go_wp2
                  go_roundw
                  case rel => exact ⟨q + 1, by omega, by go_num, HQ2.out, below_dN HB4.out nq⟩
                  case measure => simp [intOf]; omega
              · have hlt3' : ¬ (q : Int) < (p : Int) := by omega
                have HQ2 := hide (show ∀ i, i < p + 1 → ∀ k, k < i → ((pmS ms).getD k zP).nm ≠ ((pmS ms).getD i zP).nm from fun i hi k hk => by
                  by_cases e : i = p
                  · subst e; exact hv k (by omega)
                  · exact HP.out i (by omega) k hk)
                have HB4 := hide B
                clear hv B
                go_wp2
                go_roundw
                case rel => exact ⟨p + 1, by omega, by go_num, HQ2.out, HB4.out⟩
                case measure => simp [intOf]; omega
          · have hlt2' : ¬ (p : Int) < (n : Int) := by omega
            have HS := hide (snd4_0 (ps := pmS ms) hcf HN2.out HV.out (fun i hi k hk => hv i (by omega) k hk))
            have HB3 := hide B
            clear hv B
            go_wp2
            go_ret
            exact ⟨ret_int HS.out.symm, HB3.out⟩
end Go.Proofs.YtngdgogjlpjjpaeGreat

namespace Go.Proofs.YtngdgogjlpjjpaeGreat
open Go.RowKit
set_option linter.unusedVariables false
set_option linter.unusedSimpArgs false
set_option maxRecDepth 100000

theorem turn_set (w : World) (g i : Nat) (v : Value) : Turn (fun j => j = g) w (w.setCell ⟨g, i, none⟩ v) := ⟨rfl, rfl, rfl, by rw [size_setCell]; exact Nat.le_refl _, fun k _ hk => heap_setCell_other _ _ _ _ hk⟩
/-- A ROW OF THE CALL'S OWN, elements of sz cells. -/
def OG {α : Type} (t : TypeId) (sz : Nat) (f : α → List Value) (w : World) (base : Nat) (v : Value) (xs : List α) : Prop := w.ownsRow base t sz v xs.length (xs.flatMap f)
theorem OG.below {α : Type} {t : TypeId} {sz : Nat} {f : α → List Value} {w w' : World} {base : Nat} {v : Value} {xs : List α} (h : OG t sz f w base v xs) (hb : Below w.heap.size w w') : OG t sz f w' base v xs := by
  obtain ⟨hl, h0 | ⟨g, cap, cur, hv, hg, hh, h1, h2, h3, h4⟩⟩ := h
  · exact ⟨hl, .inl h0⟩
  · exact ⟨hl, .inr ⟨g, cap, cur, hv, hg, Blk.below (w := w) hh hb, h1, h2, h3, h4⟩⟩
theorem OG.mono {α : Type} {t : TypeId} {sz : Nat} {f : α → List Value} {w : World} {base base' : Nat} {v : Value} {xs : List α} (h : OG t sz f w base v xs) (hb : base' ≤ base) : OG t sz f w base' v xs := by
  obtain ⟨hl, h0 | ⟨g, cap, cur, hv, hg, hh, h1, h2, h3, h4⟩⟩ := h
  · exact ⟨hl, .inl h0⟩
  · exact ⟨hl, .inr ⟨g, cap, cur, hv, by omega, hh, h1, h2, h3, h4⟩⟩
theorem OG.turn {α : Type} {t : TypeId} {sz : Nat} {f : α → List Value} {S : Nat → Prop} {w w' : World} {base : Nat} {v : Value} {xs : List α} (h : OG t sz f w base v xs) (ht : Turn S w w') (hS : ∀ k, S k → ¬ base ≤ k) : OG t sz f w' base v xs := by
  obtain ⟨hl, h0 | ⟨g, cap, cur, hv, hg, hh, h1, h2, h3, h4⟩⟩ := h
  · exact ⟨hl, .inl h0⟩
  · exact ⟨hl, .inr ⟨g, cap, cur, hv, hg, turn_blk (w := w) ht hh (fun s => hS g s hg), h1, h2, h3, h4⟩⟩
theorem OG.lt {α : Type} {t : TypeId} {sz : Nat} {f : α → List Value} {w : World} {base : Nat} {v : Value} {xs : List α} (h : OG t sz f w base v xs) : ∀ k, v.ownBlock = some k → base ≤ k ∧ k < w.heap.size := World.ownsRow.lt h
theorem og_nil {α : Type} (t : TypeId) (sz : Nat) (f : α → List Value) (w : World) (base : Nat) : OG t sz f w base (.slice none 0 0) [] := ⟨by simp, .inl ⟨rfl, rfl⟩⟩
theorem og_shape {α : Type} {t : TypeId} {sz : Nat} {f : α → List Value} {w : World} {base : Nat} {v : Value} {xs : List α} (h : OG t sz f w base v xs) : ∃ a c, v = .slice a xs.length c := by
  obtain ⟨hl, ⟨h0, h1⟩ | ⟨g, cap, cur, hv, _⟩⟩ := h
  · exact ⟨none, 0, by rw [h0, h1]⟩
  · exact ⟨_, _, hv⟩
theorem turn_grown {S : Nat → Prop} {w W W' : World} {row : Option Nat} (h : Turn S w W) (hg : W.grownBy W' row) (hr : ∀ k, row = some k → w.heap.size ≤ k) : Turn S w W' :=
  ⟨hg.os.trans h.os, hg.tape.trans h.tape, hg.output.trans h.output, Nat.le_trans h.size hg.size, fun k hk hs => (hg.block k (Nat.lt_of_lt_of_le hk h.size) (fun e => by have := hr k e.symm; omega)).trans (h.block k hk hs)⟩
theorem cells_new (w : World) (cs : Array Value) (t : TypeId) (xs : List Value) (h : cs = xs.toArray) : ∀ j u, xs[j]? = some u → (w.alloc (.cells cs t)).cell? ((⟨w.heap.size, 0, none⟩ : Addr).add j) = some u := by
  intro j u hj
  subst h
  rw [addr_add, Nat.zero_add, Blk.cell (Blk.new w _ _)]
  simpa using hj

def clI (x : Int) : List Value := [.int .i64 x]

def clT (x : ByteArray) : List Value := [.string x]

def clX (x : Ex) : List Value := [.string x.1, .int .i64 x.2.1, .int .i64 x.2.2]

theorem turn_new' {S : Nat → Prop} {w W : World} (h : Turn S w W) {k : Nat} (hk : w.heap.size ≤ k) (i : Nat) (v : Value) : Turn S w (W.setCell ⟨k, i, none⟩ v) :=
  ⟨h.os, h.tape, h.output, by rw [size_setCell]; exact h.size, fun j hj hs => by rw [heap_setCell_other _ _ _ _ (by show j ≠ k; omega)]; exact h.block j hj hs⟩

/-- rows of rows of the call's own -/
structure OBk (w : World) (base : Nat) (v : Value) (bl : List Bk) : Prop where
  head : w.ownsRow base 24 1 v bl.length (bl.map fun B => Value.slice B.1 B.2.1 B.2.2.1)
  rows : ∀ B ∈ bl, B.2.1 = B.2.2.2.length ∧ OG 3 1 clI w base (.slice B.1 B.2.1 B.2.2.1) B.2.2.2
  apart : bl.Pairwise fun A B => ∀ k, (Value.slice A.1 A.2.1 A.2.2.1).ownBlock = some k → (Value.slice B.1 B.2.1 B.2.2.1).ownBlock ≠ some k
theorem own_kind {w : World} {base n sz : Nat} {t : TypeId} {v : Value} {xs : List Value} {k : Nat} (h : w.ownsRow base t sz v n xs) (hk : v.ownBlock = some k) : ∃ cur, Blk w k cur t := by
  obtain ⟨hl, ⟨h0, _⟩ | ⟨g, cap, cur, hv, _, hh, _⟩⟩ := h
  · subst h0; simp [Value.ownBlock] at hk
  · subst hv
    simp [Value.ownBlock] at hk
    subst hk
    exact ⟨cur, hh⟩
theorem blk_kind {w : World} {k : Nat} {cs cs' : Array Value} {t t' : TypeId} (h : Blk w k cs t) (h' : Blk w k cs' t') : t = t' := by
  unfold Blk at h h'
  rw [h] at h'
  simp at h'
  exact h'.2
theorem OG.grown {α : Type} {t : TypeId} {sz : Nat} {f : α → List Value} {w w' : World} {base : Nat} {v : Value} {xs : List α} {row : Option Nat} (h : OG t sz f w base v xs) (hg : w.grownBy w' row) (hk : v.ownBlock = none ∨ v.ownBlock ≠ row) : OG t sz f w' base v xs := World.ownsRow.kept h hg hk
theorem OBk.turn {S : Nat → Prop} {w w' : World} {base : Nat} {v : Value} {bl : List Bk} (h : OBk w base v bl) (ht : Turn S w w') (hS : ∀ k, S k → ¬ base ≤ k) : OBk w' base v bl := by
  refine ⟨?_, fun B hB => ⟨(h.rows B hB).1, (h.rows B hB).2.turn ht hS⟩, h.apart⟩
  obtain ⟨hl, h0 | ⟨g, cap, cur, hv, hg, hh, h1, h2, h3, h4⟩⟩ := h.head
  · exact ⟨hl, .inl h0⟩
  · exact ⟨hl, .inr ⟨g, cap, cur, hv, hg, turn_blk (w := w) ht hh (fun s => hS g s hg), h1, h2, h3, h4⟩⟩
theorem OBk.lt {w : World} {base : Nat} {v : Value} {bl : List Bk} (h : OBk w base v bl) : ∀ k, v.ownBlock = some k → base ≤ k ∧ k < w.heap.size := h.head.lt
theorem obk_nil (w : World) (base : Nat) : OBk w base (.slice none 0 0) [] := ⟨⟨by simp, .inl ⟨rfl, rfl⟩⟩, by simp, by simp⟩
theorem obk_shape {w : World} {base : Nat} {v : Value} {bl : List Bk} (h : OBk w base v bl) : ∃ a c, v = .slice a bl.length c := by
  obtain ⟨hl, ⟨h0, h1⟩ | ⟨g, cap, cur, hv, _⟩⟩ := h.head
  · exact ⟨none, 0, by rw [h0, h1]⟩
  · exact ⟨_, _, hv⟩
/-- one more row behind the others -/
theorem OBk.push {W W' : World} {base lo : Nat} {a : Option Addr} {k c : Nat} {bl : List Bk} {v' : Value} {A : Option Addr} {C : Nat} {x : List Int} (h : OBk W base (.slice a k c) bl) (hl : bl.length = k) (hx : OG 3 1 clI W lo (.slice A x.length C) x) (hb : base ≤ lo) (hlo : ∀ B ∈ bl, ∀ j, (Value.slice B.1 B.2.1 B.2.2.1).ownBlock = some j → j < lo)
    (hown : W'.ownsRow base 24 1 v' (k + 1) (bl.map (fun B => Value.slice B.1 B.2.1 B.2.2.1) ++ [.slice A x.length C])) (hg : W.grownBy W' (Value.slice a k c).ownBlock) : OBk W' base v' (bl ++ [(A, x.length, C, x)]) := by
  have hne : ∀ (v : Value) (xs : List Int) (lo : Nat), OG 3 1 clI W lo v xs → v.ownBlock = none ∨ v.ownBlock ≠ (Value.slice a k c).ownBlock := fun v xs lo ho => by
    cases e : v.ownBlock with
    | none => exact .inl rfl
    | some j =>
      refine .inr (fun e' => ?_)
      obtain ⟨c1, k1⟩ := own_kind ho e
      obtain ⟨c2, k2⟩ := own_kind h.head e'.symm
      exact absurd (blk_kind k1 k2) (by decide)
  refine ⟨?_, ?_, ?_⟩
  · rw [List.length_append, hl, List.map_append]
    exact hown
  · intro B hB
    rcases List.mem_append.1 hB with hB | hB
    · exact ⟨(h.rows B hB).1, (h.rows B hB).2.grown hg (hne _ _ _ (h.rows B hB).2)⟩
    · simp at hB
      subst hB
      exact ⟨rfl, (hx.grown hg (hne _ _ _ hx)).mono hb⟩
  · rw [List.pairwise_append]
    refine ⟨h.apart, by simp, fun B hB X hX j hj e => ?_⟩
    simp at hX
    subst hX
    have h1 := hlo B hB j hj
    have h2 := (hx.lt j e).1
    omega
theorem OBk.mono {w : World} {base base' : Nat} {v : Value} {bl : List Bk} (h : OBk w base v bl) (hb : base' ≤ base) : OBk w base' v bl := by
  refine ⟨?_, fun B hB => ⟨(h.rows B hB).1, (h.rows B hB).2.mono hb⟩, h.apart⟩
  obtain ⟨hl, h0 | ⟨g, cap, cur, hv, hg, hh, h1, h2, h3, h4⟩⟩ := h.head
  · exact ⟨hl, .inl h0⟩
  · exact ⟨hl, .inr ⟨g, cap, cur, hv, by omega, hh, h1, h2, h3, h4⟩⟩
theorem flat_one {α : Type} (f : α → Value) : ∀ xs : List α, xs.flatMap (fun x => [f x]) = xs.map f
  | [] => rfl
  | x :: xs => by rw [List.flatMap_cons, flat_one f xs]; rfl
theorem flat_clI (xs : List Int) : xs.flatMap clI = xs.map (Value.int .i64) := flat_one _ xs
theorem flat_clT (xs : List ByteArray) : xs.flatMap clT = xs.map Value.string := flat_one _ xs
theorem flat_clX : ∀ (xs : List Ex) (i : Nat), i < xs.length → (xs.flatMap clX)[i * 3]? = some (.string (xs.getD i zE).1) ∧ (xs.flatMap clX)[i * 3 + 1]? = some (.int .i64 (xs.getD i zE).2.1) ∧ (xs.flatMap clX)[i * 3 + 2]? = some (.int .i64 (xs.getD i zE).2.2)
  | [], i, h => by simp at h
  | x :: xs, 0, h => ⟨rfl, rfl, rfl⟩
  | x :: xs, i + 1, h => by
    have ih := flat_clX xs i (by simpa using h)
    have e : ∀ d, ((x :: xs).flatMap clX)[(i + 1) * 3 + d]? = (xs.flatMap clX)[i * 3 + d]? := fun d => by
      rw [List.flatMap_cons, List.getElem?_append_right (by simp [clX]; omega)]
      congr 1
      simp [clX]
      omega
    have e0 := e 0
    simp only [Nat.add_zero] at e0
    refine ⟨e0.trans ih.1, (e 1).trans ih.2.1, (e 2).trans ih.2.2⟩
theorem og_parts {α : Type} {t : TypeId} {sz : Nat} {f : α → List Value} {w : World} {base n c : Nat} {a : Option Addr} {xs : List α} (h : OG t sz f w base (.slice a n c) xs) : xs.length = n ∧ n ≤ maxLen ∧ n ≤ c ∧ (n ≠ 0 → ∃ g, a = some ⟨g, 0, none⟩ ∧ ∀ j u, (xs.flatMap f)[j]? = some u → w.cell? ⟨g, j, none⟩ = some u) := by
  have hc := fun g hg => World.ownsRow.cells h (g := g) hg
  obtain ⟨hl, ⟨h0, h1⟩ | ⟨g, cap, cur, hv, hg, hh, h1, h2, h3, h4⟩⟩ := h
  · simp at h0
    obtain ⟨rfl, rfl, rfl⟩ := h0
    exact ⟨h1, Nat.zero_le _, Nat.le_refl _, fun hn => absurd rfl hn⟩
  · simp at hv
    obtain ⟨rfl, rfl, rfl⟩ := hv
    refine ⟨rfl, by omega, h1, fun hn => ⟨g, rfl, fun j u hj => ?_⟩⟩
    have := hc g rfl j u hj
    rwa [addr_add, Nat.zero_add] at this
theorem og_is {w : World} {base n c : Nat} {a : Option Addr} {xs : List Int} (h : OG 3 1 clI w base (.slice a n c) xs) (hx : ∀ z ∈ xs, wfi z) : IS w a n c xs := by
  obtain ⟨h1, h2, h3, h4⟩ := og_parts h
  refine ⟨h1, h2, hx, fun hn => ?_, h3⟩
  obtain ⟨g, rfl, hc⟩ := h4 hn
  refine ⟨g, 0, rfl, fun i hi => ?_⟩
  rw [Nat.zero_add]
  refine hc i _ ?_
  rw [flat_clI]
  simp [List.getD_eq_getElem?_getD, show i < xs.length by omega]
theorem og_ss {w : World} {base n c : Nat} {a : Option Addr} {xs : List ByteArray} (h : OG 9 1 clT w base (.slice a n c) xs) (hx : ∀ s ∈ xs, s.size ≤ 1048576) : SS w a n c xs := by
  obtain ⟨h1, h2, h3, h4⟩ := og_parts h
  refine ⟨h1, h2, hx, fun hn => ?_, h3⟩
  obtain ⟨g, rfl, hc⟩ := h4 hn
  refine ⟨g, 0, rfl, fun i hi => ?_⟩
  rw [Nat.zero_add]
  refine hc i _ ?_
  rw [flat_clT]
  simp [List.getD_eq_getElem?_getD, show i < xs.length by omega]
theorem og_es {w : World} {base n c : Nat} {a : Option Addr} {xs : List Ex} (h : OG 207 3 clX w base (.slice a n c) xs) (hx : ∀ s ∈ xs, s.1.size ≤ 1048576) : ES w a n c xs := by
  obtain ⟨h1, h2, h3, h4⟩ := og_parts h
  refine ⟨h1, h2, hx, fun hn => ?_, h3⟩
  obtain ⟨g, rfl, hc⟩ := h4 hn
  refine ⟨g, 0, rfl, fun i hi => ?_⟩
  rw [Nat.zero_add]
  obtain ⟨f0, f1, f2⟩ := flat_clX xs i (by omega)
  exact ⟨hc _ _ f0, hc _ _ f1, hc _ _ f2⟩
theorem obk_bks {w : World} {base n c : Nat} {a : Option Addr} {bl : List Bk} (h : OBk w base (.slice a n c) bl) (hx : ∀ B ∈ bl, ∀ z ∈ B.2.2.2, wfi z) : BKS w a n c bl := by
  have hh : OG 24 1 (fun B : Bk => [Value.slice B.1 B.2.1 B.2.2.1]) w base (.slice a n c) bl := by unfold OG; rw [flat_one]; exact h.head
  obtain ⟨h1, h2, h3, h4⟩ := og_parts hh
  refine ⟨h1, h2, fun hn => ?_, fun i hi => ?_, h3⟩
  · obtain ⟨g, rfl, hc⟩ := h4 hn
    refine ⟨g, 0, rfl, fun i hi => ?_⟩
    rw [Nat.zero_add]
    refine hc i _ ?_
    rw [flat_one]
    simp [List.getD_eq_getElem?_getD, show i < bl.length by omega]
  · have hm : bl.getD i zB ∈ bl := by simp [List.getD_eq_getElem?_getD, show i < bl.length by omega]
    obtain ⟨e, o⟩ := h.rows _ hm
    exact og_is o (hx _ hm)
/-- a row stays where its block is left alone -/
theorem OG.kept {α : Type} {t : TypeId} {sz : Nat} {f : α → List Value} {S : Nat → Prop} {w w' : World} {base : Nat} {v : Value} {xs : List α} (h : OG t sz f w base v xs) (ht : Turn S w w') (hk : ∀ k, v.ownBlock = some k → ¬ S k) : OG t sz f w' base v xs := by
  obtain ⟨hl, h0 | ⟨g, cap, cur, hv, hg, hh, h1, h2, h3, h4⟩⟩ := h
  · exact ⟨hl, .inl h0⟩
  · exact ⟨hl, .inr ⟨g, cap, cur, hv, hg, turn_blk (w := w) ht hh (hk g (by rw [hv]; rfl)), h1, h2, h3, h4⟩⟩
theorem og_addr {α : Type} {t : TypeId} {sz : Nat} {f : α → List Value} {w : World} {base n c : Nat} {a : Option Addr} {xs : List α} (h : OG t sz f w base (.slice a n c) xs) (hn : n ≠ 0) : ∃ g, a = some ⟨g, 0, none⟩ := by
  obtain ⟨_, _, _, h4⟩ := og_parts h
  obtain ⟨g, hg, _⟩ := h4 hn
  exact ⟨g, hg⟩
end Go.Proofs.YtngdgogjlpjjpaeGreat

namespace Go.Proofs.YtngdgogjlpjjpaeGreat
open Go.RowKit
set_option linter.unusedVariables false
set_option linter.unusedSimpArgs false
set_option maxRecDepth 100000

/-- a number as bytes, the least first -/
def encN (v : Int) (s : Nat) : List Int := (List.range s).map (bt v)
theorem encN_len (v : Int) (s : Nat) : (encN v s).length = s := by simp [encN]
theorem encN_range (v : Int) (s : Nat) : ∀ z ∈ encN v s, 0 ≤ z ∧ z ≤ 255 := by
  intro z hz
  simp only [encN, List.mem_map] at hz
  obtain ⟨j, _, rfl⟩ := hz
  exact bt_range v j
theorem put_enc (v : Int) : ∀ s, s ≤ 4 → put (List.replicate s 0) 0 v s = encN v s
  | 0, _ => rfl
  | 1, _ => rfl
  | 2, _ => rfl
  | 3, _ => rfl
  | 4, _ => rfl
  | s + 5, h => by omega

theorem row_obE {w : World} {g base n : Nat} {zs : List Int} (h : Row8 w g zs) (hb : base ≤ g) (hn : zs.length = n) (hm : n ≤ maxLen) (hr : ∀ z ∈ zs, 0 ≤ z ∧ z ≤ 255) : OB w base (.slice (some ⟨g, 0, none⟩) n n) zs := by
  subst hn
  exact ⟨⟨by simp, .inr ⟨g, zs.length, _, rfl, hb, h, Nat.le_refl _, hm, by simp, by rw [List.take_of_length_le (by simp)]⟩⟩, hr⟩

set_option maxHeartbeats 1000000 in
theorem l4Num_any (v : Int) (s : Nat) (w : World) (hs : s = 1 ∨ s = 2 ∨ s = 4) (h0 : 0 ≤ v) (h1 : v ≤ 4294967295) :
    Calls Tryz.prog 158 #[.int .i64 v, .int .i64 s] w fun e w' => e = .returned (.slice (some ⟨w.heap.size, 0, none⟩) s s) ∧ OB w' w.heap.size (.slice (some ⟨w.heap.size, 0, none⟩) s s) (encN v s) ∧ Below w.heap.size w w' := by
  obtain ⟨i0, hi, hz0, hz1, hz2⟩ := info_parts info8
  have hs4 : s ≤ 4 := by omega
  have hs1 : 1 ≤ s := by omega
  clear hs
  go_enter Tryz.func158, Tryz.ntmps158
  go_wp2_with (at_make; refine wpList_make_full _ rfl _ _ 41 rfl w.heap.size 5 i0 (.int .u8 0) 1 Tryz.underlying41 hi hz0 hz1 .i64 .i64 _ _ s rfl rfl rfl rfl (by rw [hz2]; omega) (by unfold maxLen; omega) (Nat.le_refl _) ?_; intro w1 hown hgr)
  have hrow := row_of_made hown
  have hbel := below_grown hgr
  clear hown hgr hi hz0 hz1 hz2
  have ho := row_obE (n := s) hrow (Nat.le_refl w.heap.size) (by simp) (by unfold maxLen; omega) (by intro z hz; simp at hz; omega)
  go_wp2_with fail
  refine (l1Put_any w.heap.size s s 0 s v w1 (ob_room ho) (by omega) (by omega) (by omega) (by omega) h0 h1).mono ?_
  rintro e w2 ⟨rfl, rfl⟩
  have hp := ob_put ho 0 v s (by omega)
  rw [put_enc v s hs4] at hp
  have hbp := only_below hbel (only_put w.heap.size 0 v w1 s) (Nat.le_refl _)
  have HX := hide (And.intro hp hbp)
  clear hp hbp ho hbel hrow
  have e : (s : Int).toNat = s := by omega
  rw [e]
  generalize putW w1 w.heap.size 0 v s = W at *
  go_wp2
  go_ret
  exact ⟨rfl, HX.out.1, HX.out.2⟩
end Go.Proofs.YtngdgogjlpjjpaeGreat

namespace Go.Proofs.YtngdgogjlpjjpaeGreat
open Go.RowKit
set_option linter.unusedVariables false
set_option linter.unusedSimpArgs false
set_option maxRecDepth 100000

/-- the bytes of a text -/
def strB (s : ByteArray) : List Int := s.data.toList.map fun b => (b.toNat : Int)
theorem strB_len (s : ByteArray) : (strB s).length = s.size := by simp [strB]
theorem strB_range (s : ByteArray) : ∀ z ∈ strB s, 0 ≤ z ∧ z ≤ 255 := by
  intro z hz
  simp only [strB, List.mem_map] at hz
  obtain ⟨b, _, rfl⟩ := hz
  have := b.toNat_lt
  omega
theorem strB_news (w : World) (s : ByteArray) (cap : Nat) (fr : Nat × Nat) (t : TypeId) (g : Nat) (hg : g = w.heap.size) : ∀ j u, ((strB s).map (Value.int .u8))[j]? = some u → (w.alloc (.cells (bytesRow s cap) t fr)).cell? ((⟨g, 0, none⟩ : Addr).add j) = some u := by
  intro j u hj
  subst hg
  have e : (Addr.add ⟨w.heap.size, 0, none⟩ j) = ⟨w.heap.size, j, none⟩ := by rw [addr_add, Nat.zero_add]
  rw [e, World.cell?_alloc_mark]
  have hl : j < s.size := by
    by_cases h : j < s.size
    · exact h
    · rw [List.getElem?_eq_none (by simp [strB]; omega)] at hj; simp at hj
  rw [← hj]
  unfold bytesRow
  rw [Array.getElem?_append_left (by simpa using hl)]
  simp [strB]
  rfl
theorem ones8 (zs : List Int) : ∀ u ∈ zs.map (Value.int .u8), u.oneCell' = true := by
  intro u hu
  simp only [List.mem_map] at hu
  obtain ⟨z, _, rfl⟩ := hu
  rfl
theorem ob_join {w : World} {base : Nat} {v : Value} {xs ys : List Int} (hx : ∀ z ∈ xs, 0 ≤ z ∧ z ≤ 255) (hy : ∀ z ∈ ys, 0 ≤ z ∧ z ≤ 255) (h : w.ownsRow base 5 1 v (xs.length + ys.length) (xs.map (Value.int .u8) ++ ys.map (Value.int .u8))) : OB w base v (xs ++ ys) :=
  ⟨by simpa using h, fun z hz => by
    rcases List.mem_append.1 hz with h | h
    · exact hx z h
    · exact hy z h⟩
theorem ob_form {w : World} {base : Nat} {v : Value} {zs : List Int} (h : OB w base v zs) (hn : zs.length ≠ 0) : ∃ g d, v = .slice (some ⟨g, 0, none⟩) zs.length d := by
  obtain ⟨hl, ⟨h0', h1⟩ | ⟨g, cap', cur, hv, _⟩⟩ := h.1
  · exact absurd h1 hn
  · exact ⟨g, cap', hv⟩
/-- a text with its length -/
def encT (s : ByteArray) : List Int := encN s.size 1 ++ strB s
theorem encT_len (s : ByteArray) : (encT s).length = 1 + s.size := by simp [encT, encN_len, strB_len]
/-- WHAT A WRITER OF BYTES GIVES: bytes of its own. -/
def EnPost (w : World) (zs : List Int) (e : Ending) (w' : World) : Prop := ∃ g d, e = .returned (.slice (some ⟨g, 0, none⟩) zs.length d) ∧ OB w' w.heap.size (.slice (some ⟨g, 0, none⟩) zs.length d) zs ∧ Below w.heap.size w w'

set_option maxHeartbeats 1000000 in
theorem l4Text_any (s : ByteArray) (w : World) (hs : s.size ≤ 1048576) : Calls Tryz.prog 156 #[.string s] w (EnPost w (encT s)) := by
  obtain ⟨i0, hi, hz0, hz1, hz2⟩ := info_parts info8
  have hcv := fun (w : World) => run_bytes_of_string (P := Tryz.prog) w 9 41 5 s Tryz.underlying9 Tryz.underlying41 Tryz.underlying5
  have HL := hide (And.intro (encN_len s.size 1) (strB_len s))
  have HN := hide (fun w => l4Num_any s.size 1 w (Or.inl rfl) (by omega) (by omega))
  go_enter Tryz.func156, Tryz.ntmps156
  go_wp2_with fail
  refine (HN.out _).mono ?_
  rintro e w1 ⟨rfl, ho, hb⟩
  have HO := hide (fun (O : Obj) => (ho.below ((Below.refl w1.heap.size w1).drew.alloc (Nat.le_refl _) O)).1)
  have HB := hide (fun (O : Obj) => hb.drew.alloc (show w.heap.size ≤ w1.drew.heap.size from hb.size) O)
  have hbs := hb.size
  clear ho hb
  go_wp2_with (at_builtin; refine wpList_append_own _ rfl _ _ 41 rfl w.heap.size 5 i0 (.int .u8 0) 1 1 Tryz.underlying41 hi hz0 hz1 hz2 rfl (by decide) (.slice (some ⟨w.heap.size, 0, none⟩) 1 1) 1 ((encN s.size 1).map (Value.int .u8)) rfl (HO.out _) ⟨w1.heap.size, 0, none⟩ s.size _ ((strB s).map (Value.int .u8)) rfl (by rw [List.length_map, strB_len, Nat.mul_one]) (strB_news _ s _ _ _ _ rfl) (ones8 _) (by unfold maxLen; omega) (by omega) (by simp; omega) ?_; intro v' w3 hown3 hgr3 _)
  have h3 : OB w3 w.heap.size v' (encT s) := ob_join (encN_range _ _) (strB_range _) (by rw [HL.out.1, HL.out.2]; exact hown3)
  obtain ⟨g, d, rfl⟩ := ob_form h3 (by rw [encT_len]; omega)
  have hb3 := below_grown' (HB.out _) hgr3 (by simp; omega) (Nat.le_refl _)
  go_ret
  exact ⟨g, d, rfl, h3, hb3⟩

/-- words as bytes, the first k of them -/
def encW (s : Nat) (zs : List Int) (k : Nat) : List Int := (zs.take k).flatMap fun z => encN z s
theorem encW_succ (s : Nat) (zs : List Int) (k : Nat) (h : k < zs.length) : encW s zs (k + 1) = encW s zs k ++ encN (zs.getD k 0) s := by
  unfold encW
  rw [List.take_succ_eq_append_getElem h, List.flatMap_append]
  simp [List.getD_eq_getElem?_getD, h]
theorem encW_len (s : Nat) (zs : List Int) : ∀ k, k ≤ zs.length → (encW s zs k).length = k * s
  | 0, _ => by simp [encW]
  | k + 1, h => by rw [encW_succ s zs k (by omega), List.length_append, encW_len s zs k (by omega), encN_len, Nat.succ_mul]
theorem encW_range (s : Nat) (zs : List Int) (k : Nat) : ∀ z ∈ encW s zs k, 0 ≤ z ∧ z ≤ 255 := by
  intro z hz
  simp only [encW, List.mem_flatMap] at hz
  obtain ⟨x, _, hz⟩ := hz
  exact encN_range _ _ z hz
theorem app_range {xs ys : List Int} (hx : ∀ z ∈ xs, 0 ≤ z ∧ z ≤ 255) (hy : ∀ z ∈ ys, 0 ≤ z ∧ z ≤ 255) : ∀ z ∈ xs ++ ys, 0 ≤ z ∧ z ≤ 255 := fun z hz => by
  rcases List.mem_append.1 hz with h | h
  · exact hx z h
  · exact hy z h
/-- words with their count -/
def encL (zs : List Int) : List Int := encN zs.length 2 ++ encW 4 zs zs.length
theorem encL_len (zs : List Int) : (encL zs).length = 2 + zs.length * 4 := by simp [encL, encN_len, encW_len]
theorem ob_cells {w : World} {base g n cap : Nat} {zs : List Int} (h : OB w base (.slice (some ⟨g, 0, none⟩) n cap) zs) : ∀ j u, (zs.map (Value.int .u8))[j]? = some u → w.cell? ((⟨g, 0, none⟩ : Addr).add j) = some u := bs_news h.bs

set_option maxHeartbeats 2000000 in
theorem l4List_any (a : Option Addr) (n cap : Nat) (zs : List Int) (w : World) (h : IS w a n cap zs) (hn : n ≤ 1000) (hr : ∀ z ∈ zs, 0 ≤ z ∧ z ≤ 4294967295) : Calls Tryz.prog 157 #[.slice a n cap] w (EnPost w (encL zs)) := by
  obtain ⟨i0, hi, hz0, hz1, hz2⟩ := info_parts info8
  have hl := h.1
  have HN := hide (fun w => l4Num_any n 2 w (Or.inr (Or.inl rfl)) (by omega) (by omega))
  have HE := hide (show encL zs = encN n 2 ++ encW 4 zs n by unfold encL; rw [hl])
  go_enter Tryz.func157, Tryz.ntmps157
  go_wp2_with fail
  refine (HN.out _).mono ?_
  rintro e w1 ⟨rfl, ho, hb⟩
  have H1 : OB w1 w.heap.size (.slice (some ⟨w.heap.size, 0, none⟩) 2 2) (encN n 2 ++ encW 4 zs 0) := by
    have e : encN n 2 ++ encW 4 zs 0 = encN n 2 := by simp [encW]
    rw [e]; exact ho
  clear ho HN
  go_wp2
  go_loopw [3, 4] (fun x i wr => ∃ (k : Nat) (v : Value), k ≤ n ∧ i = .int .i64 k ∧ v = x ∧ OB wr w.heap.size v (encN n 2 ++ encW 4 zs k) ∧ Below w.heap.size w wr) (fun _ i _ => n - (intOf i).toNat)
  case atStart => exact ⟨0, _, Nat.zero_le _, rfl, rfl, H1, hb⟩
  case round =>
    obtain ⟨k, v, hk, rfl, rfl, hO, hB⟩ := hrel
    clear H1 hb
    by_cases hlt : k < n
    · have hlt' : (k : Int) < (n : Int) := by omega
      obtain ⟨b, off, rfl⟩ := h.addr (by omega)
      have hc := (h.below hB).at k hlt
      have hz : 0 ≤ zs.getD k 0 ∧ zs.getD k 0 ≤ 4294967295 := hr _ (by simp [List.getD_eq_getElem?_getD, show k < zs.length by omega])
      have HS := hide (show encN n 2 ++ encW 4 zs (k + 1) = (encN n 2 ++ encW 4 zs k) ++ encN (zs.getD k 0) 4 by rw [encW_succ 4 zs k (by omega), List.append_assoc])
      have HR := hide (show ∀ z ∈ encN n 2 ++ encW 4 zs k, 0 ≤ z ∧ z ≤ 255 from app_range (encN_range _ _) (encW_range _ _ _))
      have HLN : Hid ((encN n 2 ++ encW 4 zs k).length = 2 + k * 4) := by show _ = _; rw [List.length_append, encN_len, encW_len 4 zs k (by omega)]
      generalize encN n 2 ++ encW 4 zs k = out at *
      generalize zs.getD k 0 = z at *
      have HN := hide (fun w => l4Num_any z 4 w (Or.inr (Or.inr rfl)) hz.1 hz.2)
      go_wp2_with fail
      refine (HN.out _).mono ?_
      rintro e w2 ⟨rfl, ho2, hb2⟩
      have HO := hide ((hO.below hb2).1)
      have HC := hide (ob_cells ho2)
      have hB2 := hB.trans (hb2.mono hB.size)
      have hlt2 := hO.lt
      have hsz := hB.size
      have hol := HLN.out
      clear hO ho2 hb2 hc HN
      go_wp2_with (at_builtin; refine wpList_append_own _ rfl _ _ 41 rfl w.heap.size 5 i0 (.int .u8 0) 1 1 Tryz.underlying41 hi hz0 hz1 hz2 rfl (by decide) v out.length (out.map (Value.int .u8)) rfl HO.out ⟨wr.heap.size, 0, none⟩ 4 4 ((encN z 4).map (Value.int .u8)) rfl (by rw [List.length_map, encN_len]) HC.out (ones8 _) (by unfold maxLen; omega) (by omega) (by have := hB2.size; omega) ?_; intro v' w3 hown3 hgr3 _)
      have h3 : OB w3 w.heap.size v' (out ++ encN z 4) := ob_join HR.out (encN_range _ _) (by rw [encN_len]; exact hown3)
      rw [← HS.out] at h3
      have hb3 : Below w.heap.size w w3 := hB2.grown hgr3 (by have := hB2.size; omega) (fun j hj => (hlt2 j hj).1)
      go_roundw
      case rel => exact ⟨k + 1, v', by omega, by go_num, rfl, h3, hb3⟩
      case measure => simp [intOf]; omega
    · obtain rfl : k = n := by omega
      have h3 := hO
      rw [← HE.out] at h3
      obtain ⟨g, d, rfl⟩ := ob_form h3 (by rw [encL_len]; omega)
      have HX := hide h3
      clear h3 hO
      go_wp2
      go_ret
      exact ⟨g, d, rfl, HX.out, hB⟩
end Go.Proofs.YtngdgogjlpjjpaeGreat

namespace Go.Proofs.YtngdgogjlpjjpaeGreat
open Go.RowKit
set_option linter.unusedVariables false
set_option linter.unusedSimpArgs false
set_option maxRecDepth 100000

/-- WHAT A VALID MODULE'S PARTS ARE. -/
structure Vm (nm : ByteArray) (tn : Nat) (tz : List Int) (bn : Nat) (bl : List Bk) (dn : Nat) (bss : Int) (rn : Nat) (rz : List Int) (im : Nat) (ss : List ByteArray) (en : Nat) (es : List Ex) : Prop where
  n : nm.size ≤ 12
  t : tn ≤ 200
  tw : ∀ z ∈ tz, 0 ≤ z ∧ z ≤ 4294967295
  b : bn ≤ 4
  bw : ∀ i, i < bl.length → (bl.getD i zB).2.1 ≤ 64 ∧ ∀ z ∈ (bl.getD i zB).2.2.2, 0 ≤ z ∧ z ≤ 4294967295
  d : dn ≤ 512
  s : 0 ≤ bss ∧ bss ≤ 512
  r : rn ≤ 16
  rw : ∀ i, i < rn → 0 ≤ rz.getD i 0 ∧ rz.getD i 0 ≤ 512
  i : im ≤ 16
  iw : ∀ i, i < im → (ss.getD i zS).size ≤ 25
  e : en ≤ 16
  ew : ∀ i, i < en → (es.getD i zE).1.size ≤ 12 ∧ -1 ≤ (es.getD i zE).2.1 ∧ (es.getD i zE).2.1 ≤ 4 ∧ 0 ≤ (es.getD i zE).2.2 ∧ (es.getD i zE).2.2 ≤ 200
theorem wds_all {zs : List Int} (h : wds zs = true) : ∀ z ∈ zs, 0 ≤ z ∧ z ≤ 4294967295 := fun z hz => by
  unfold wds at h
  rw [List.all_eq_true] at h
  simpa using h z hz
theorem nmo_size {s : ByteArray} (h : nmo s = true) : s.size ≤ 12 := by
  unfold nmo at h
  simp at h
  omega
theorem full_size {s : ByteArray} (h : full s = true) : s.size ≤ 25 := by
  unfold full at h
  simp only [Bool.and_eq_true, decide_eq_true_eq] at h
  obtain ⟨h0, h1, h2⟩ := h
  have a1 := nmo_size h1
  have a2 := nmo_size h2
  have hd := dot_range s
  unfold cutA at a1
  unfold cutB at a2
  simp only [ByteArray.size_extract] at a1 a2
  omega
theorem rng_all {f : Nat → Bool} {n : Nat} (h : (List.range n).all f = true) (i : Nat) (hi : i < n) : f i = true := by
  rw [List.all_eq_true] at h
  exact h i (by simpa using hi)
theorem vm_of_mdo {nm : ByteArray} {tn : Nat} {tz : List Int} {bn : Nat} {bl : List Bk} {dn : Nat} {bss : Int} {rn : Nat} {rz : List Int} {im : Nat} {ss : List ByteArray} {en : Nat} {es : List Ex} (hbl : bl.length = bn) (h : mdo nm tn tz bn bl dn bss rn rz im ss en es = 0) : Vm nm tn tz bn bl dn bss rn rz im ss en es := by
  unfold mdo at h
  by_cases c1 : nmo nm = false
  · rw [if_pos c1] at h; simp at h
  rw [if_neg c1] at h
  by_cases c2 : cdo tn tz bn bl = false
  · rw [if_pos c2] at h; simp at h
  rw [if_neg c2] at h
  by_cases c3 : 512 < dn ∨ bss < 0 ∨ 512 < bss
  · rw [if_pos c3] at h; simp at h
  rw [if_neg c3] at h
  by_cases c4 : rlo rn rz dn = false
  · rw [if_pos c4] at h; simp at h
  rw [if_neg c4] at h
  by_cases c5 : imo im ss = false
  · rw [if_pos c5] at h; simp at h
  rw [if_neg c5] at h
  by_cases c6 : exo tn bn bl en es = false
  · rw [if_pos c6] at h; simp at h
  simp only [Bool.not_eq_false] at c1 c2 c4 c5 c6
  unfold cdo at c2
  unfold rlo at c4
  unfold imo at c5
  unfold exo at c6
  simp only [Bool.and_eq_true, decide_eq_true_eq] at c2 c4 c5 c6
  obtain ⟨⟨t1, t2⟩, t3, t4⟩ := c2
  have hb : ∀ i, i < bl.length → (bl.getD i zB).2.1 ≤ 64 ∧ ∀ z ∈ (bl.getD i zB).2.2.2, 0 ≤ z ∧ z ≤ 4294967295 := fun i hi => by
    rw [List.all_eq_true] at t4
    have hm : bl.getD i zB ∈ bl := by simp [List.getD_eq_getElem?_getD, hi]
    have := t4 _ hm
    unfold bko at this
    simp only [Bool.and_eq_true, decide_eq_true_eq] at this
    exact ⟨this.1.2, wds_all this.2⟩
  refine ⟨nmo_size c1, t1, wds_all t3, t2, hb, by omega, by omega, c4.1, fun i hi => ?_, c5.1, fun i hi => full_size (rng_all c5.2 i hi), c6.1, fun i hi => ?_⟩
  · have := rng_all c4.2 i hi
    unfold rlk at this
    simp only [Bool.and_eq_true, decide_eq_true_eq] at this
    omega
  · have := rng_all c6.2 i hi
    unfold ex1 at this
    simp only [Bool.and_eq_true, decide_eq_true_eq] at this
    obtain ⟨⟨n1, a1, a2⟩, _⟩ := this
    have n2 := nmo_size n1
    have hp : pcn tn bn bl (es.getD i zE).2.1 ≤ 200 ∧ (0 < pcn tn bn bl (es.getD i zE).2.1 → -1 ≤ (es.getD i zE).2.1 ∧ (es.getD i zE).2.1 ≤ 4) := by
      unfold pcn
      split
      · omega
      · split
        · next h1 h2 =>
          have := (hb (es.getD i zE).2.1.toNat (by omega)).1
          omega
        · omega
    have := hp.2 (by omega)
    omega
end Go.Proofs.YtngdgogjlpjjpaeGreat
