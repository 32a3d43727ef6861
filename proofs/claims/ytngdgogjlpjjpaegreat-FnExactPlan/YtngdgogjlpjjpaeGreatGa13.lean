import Derived.Test.YtngdgogjlpjjpaeGreatGa12
import Derived.Deep.RegionHeld3
import Derived.Test.YtngdgogjlpjjpaeGreatGa10
namespace Go.Proofs.YtngdgogjlpjjpaeGreat
open Go.RowKit
set_option linter.unusedVariables false
set_option linter.unusedSimpArgs false
set_option maxRecDepth 100000

theorem snd4_1 {ps : List PMod} {s w k d : Int} (h : cfo s w k d = false) : snd4 ps s w k d = 1 := if_pos h
theorem snd4_2 {ps : List PMod} {s w k d : Int} (h : cfo s w k d = true) (h2 : ps.length < 1 ∨ 4 < ps.length) : snd4 ps s w k d = 2 := by
  unfold snd4; rw [if_neg (by rw [h]; decide), if_pos h2]
theorem snd4_3 {ps : List PMod} {s w k d : Int} (h : cfo s w k d = true) (h2 : ¬ (ps.length < 1 ∨ 4 < ps.length)) (i : Nat) (hi : i < ps.length) (h3 : mdoP (ps.getD i zP) ≠ 0) : snd4 ps s w k d = 3 := by
  unfold snd4; rw [if_neg (by rw [h]; decide), if_neg h2, if_pos (fun v => h3 (v i hi))]
theorem snd4_4 {ps : List PMod} {s w k d : Int} (h : cfo s w k d = true) (h2 : ¬ (ps.length < 1 ∨ 4 < ps.length)) (h3 : vlds ps) (i j : Nat) (hi : i < ps.length) (hj : j < i) (h4 : (ps.getD j zP).nm = (ps.getD i zP).nm) : snd4 ps s w k d = 4 := by
  unfold snd4; rw [if_neg (by rw [h]; decide), if_neg h2, if_neg (fun v => v h3), if_pos (fun v => v i hi j hj h4)]
theorem snd4_0 {ps : List PMod} {s w k d : Int} (h : cfo s w k d = true) (h2 : ¬ (ps.length < 1 ∨ 4 < ps.length)) (h3 : vlds ps) (h4 : nms ps) : snd4 ps s w k d = 0 := by
  unfold snd4; rw [if_neg (by rw [h]; decide), if_neg h2, if_neg (fun v => v h3), if_neg (fun v => v h4)]
theorem below_dN {B : Nat} {a W : World} (h : Below B a W) (n : Nat) : Below B a (W.drewN n) := ⟨h.os, h.tape, h.output, h.size, h.block⟩
theorem str_ne {a b : ByteArray} (h : a ≠ b) : (a.toList == b.toList) = false := by
  rw [beq_eq_false_iff_ne]
  intro e
  apply h
  rw [ByteArray.toList_eq, ByteArray.toList_eq] at e
  cases a
  cases b
  simp at e
  rw [e]

set_option maxHeartbeats 1000000 in
theorem l5Round_any (x : Int) (w : World) (h0 : 0 ≤ x) (h1 : x ≤ 4294967295) : Calls Tryz.prog 136 #[.int .i64 x] w fun e w' => e = .returned (.int .i64 (rnd x)) ∧ w' = w := by
  have hd : (x + 31).tdiv 32 = (x + 31) / 32 := Int.tdiv_eq_ediv_of_nonneg (by omega)
  go_enter Tryz.func136, Tryz.ntmps136
  go_wp2
  go_ret
  exact ⟨ret_int (by unfold rnd; rw [show x + 31 = x + 32 - 1 by omega]), rfl⟩

theorem Md.okS {m : Md} {w : World} (h : m.md w) : Calls Tryz.prog 154 #[.agg #[.string m.nm, .slice m.ta m.tn m.tc, .slice m.ba m.bn m.bc, .slice m.da m.dn m.dc, .int .i64 m.bss, .slice m.ra m.rn m.rc, .slice m.ia m.im m.ic, .slice m.ea m.en m.ec]] w fun e w' => e = .returned (.int .i64 (mdoP m.pm)) ∧ Below w.heap.size w w' := by
  have := sModuleOk_any _ _ _ _ _ _ _ _ _ _ _ _ _ _ _ _ _ _ _ _ _ _ _ _ _ _ w h
  rw [md_mdo h] at this
  exact this

set_option maxHeartbeats 4000000 in
theorem l5Sound_any (a : Option Addr) (n cap : Nat) (ms : List Md) (s c k d : Int) (w : World) (h : MSD w a n cap ms) :
    Calls Tryz.prog 159 #[.slice a n cap, .agg #[.int .i64 s, .int .i64 c, .int .i64 k, .int .i64 d]] w fun e w' => e = .returned (.int .i64 (snd4 (pmS ms) s c k d)) ∧ Below w.heap.size w w' := by
  have hA : Below w.heap.size w (w.alloc (.cells #[.int .i64 s, .int .i64 c, .int .i64 k, .int .i64 d] 44)) := (Below.refl _ _).alloc (Nat.le_refl _) _
  have hl := h.s.1
  have hm1 := h.s.2.1
  unfold maxLen at hm1
  have hpl := pmS_len ms
  have HH := hide h
  have HC := hide (fun W => sConfigOk_any s c k d W)
  clear h
  go_enter Tryz.func159, Tryz.ntmps159
  go_wp2_with fail
  refine (HC.out _).mono ?_
  rintro e w1 ⟨rfl, hb1⟩
  have HB1 := hide (hA.trans (hb1.mono (by simp)))
  clear hA hb1 HC
  cases hcf : cfo s c k d with
  | false =>
    have HS := hide (snd4_1 (ps := pmS ms) hcf)
    go_wp2
    go_ret
    exact ⟨ret_int HS.out.symm, HB1.out⟩
  | true =>
    by_cases hn2 : n < 1 ∨ 4 < n
    · have HS := hide (snd4_2 (ps := pmS ms) hcf (by omega))
      by_cases hn1 : n < 1
      · have hn1' : (n : Int) < 1 := by omega
        clear hn2
        go_wp2
        go_ret
        exact ⟨ret_int HS.out.symm, HB1.out⟩
      · have hn1' : ¬ (n : Int) < 1 := by omega
        have hn4' : (4 : Int) < (n : Int) := by omega
        clear hn2
        go_wp2
        go_ret
        exact ⟨ret_int HS.out.symm, HB1.out⟩
    have hn1' : ¬ (n : Int) < 1 := by omega
    have hn4' : ¬ (4 : Int) < (n : Int) := by omega
    have HN2 := hide (show ¬ ((pmS ms).length < 1 ∨ 4 < (pmS ms).length) by rw [hpl, hl]; exact hn2)
    clear hn2
    go_wp2
    go_loopw [5] (fun i wr => ∃ m : Nat, m ≤ n ∧ i = .int .i64 m ∧ (∀ j, j < m → mdoP ((pmS ms).getD j zP) = 0) ∧ Below w.heap.size w wr) (fun i _ => n - (intOf i).toNat)
    case atStart => exact ⟨0, Nat.zero_le _, rfl, fun j hj => absurd hj (by omega), HB1.out⟩
    case round =>
      obtain ⟨m, hm, rfl, hv, B⟩ := hrel
      by_cases hlt : m < n
      · have hlt' : (m : Int) < (n : Int) := by omega
        have H := HH.out.below B
        obtain ⟨b, off, rfl, q0, q1, q2, q3, q4, q5, q6, q7⟩ := H.s.at m hlt
        have HOK := hide (Md.okS (H.d m hlt))
        rw [← pmS_at (by omega)] at HOK
        have HV := hide hv
        have HB := hide B
        obtain ⟨V, hV⟩ : ∃ V, V = mdoP ((pmS ms).getD m zP) := ⟨_, rfl⟩
        rw [← hV] at HOK
        have HVV := hide hV
        generalize ms.getD m zMd = M at *
        clear hv B H hV
        go_wp2_with fail
        refine HOK.out.mono ?_
        rintro e w2 ⟨rfl, hb2⟩
        have HB2 := hide (HB.out.trans (hb2.mono HB.out.size))
        clear hb2 HOK HB q0 q1 q2 q3 q4 q5 q6 q7
        by_cases hz : V = 0
        · subst hz
          have HV2 := hide (show ∀ j, j < m + 1 → mdoP ((pmS ms).getD j zP) = 0 from fun j hj => by
            by_cases e : j = m
            · subst e; exact HVV.out.symm
            · exact HV.out j (by omega))
          go_wp2
          go_roundw
          case rel => exact ⟨m + 1, by omega, by go_num, HV2.out, HB2.out⟩
          case measure => simp [intOf]; omega
        · have hz' : (V != 0) = true := by simp [hz]
          have HS := hide (snd4_3 (ps := pmS ms) hcf HN2.out m (by omega) (by rw [← HVV.out]; exact hz))
          go_wp2
          go_ret
          exact ⟨ret_int HS.out.symm, HB2.out⟩
      · have hlt' : ¬ (m : Int) < (n : Int) := by omega
        have HV := hide (show vlds (pmS ms) from fun i hi => hv i (by omega))
        have HB := hide B
        clear hv B
        go_wp2
        go_loopw [6] (fun i wr => ∃ m : Nat, m ≤ n ∧ i = .int .i64 m ∧ (∀ i, i < m → ∀ k, k < i → ((pmS ms).getD k zP).nm ≠ ((pmS ms).getD i zP).nm) ∧ Below w.heap.size w wr) (fun i _ => n - (intOf i).toNat)
        case atStart => exact ⟨0, Nat.zero_le _, rfl, fun j hj => absurd hj (by omega), HB.out⟩
        case round =>
          obtain ⟨p, hp, rfl, hv, B⟩ := hrel
          by_cases hlt2 : p < n
          · have hlt2' : (p : Int) < (n : Int) := by omega
            have HP := hide hv
            have HB3 := hide B
            clear hv B
            go_wp2
            go_loopw [7] (fun i wr => ∃ q : Nat, q ≤ p ∧ i = .int .i64 q ∧ (∀ k, k < q → ((pmS ms).getD k zP).nm ≠ ((pmS ms).getD p zP).nm) ∧ Below w.heap.size w wr) (fun i _ => p - (intOf i).toNat)
            case atStart => exact ⟨0, Nat.zero_le _, rfl, fun j hj => absurd hj (by omega), HB3.out⟩
            case round =>
              obtain ⟨q, hq, rfl, hv, B⟩ := hrel
              by_cases hlt3 : q < p
              · have hlt3' : (q : Int) < (p : Int) := by omega
                have hqn : (q : Int) < (n : Int) := by omega
                have H := HH.out.below B
                obtain ⟨b, off, rfl, q0, _⟩ := H.s.at q (by omega)
                obtain ⟨b', off', e', r0, _⟩ := H.s.at p hlt2
                simp at e'
                obtain ⟨rfl, rfl⟩ := e'
                have e1 : ((pmS ms).getD q zP).nm = (ms.getD q zMd).nm := by rw [pmS_at (by omega)]; rfl
                have e2 : ((pmS ms).getD p zP).nm = (ms.getD p zMd).nm := by rw [pmS_at (by omega)]; rfl
                have HQ := hide hv
                have HB4 := hide B
                by_cases hnm : (ms.getD q zMd).nm = (ms.getD p zMd).nm
                · have HS := hide (snd4_4 (ps := pmS ms) hcf HN2.out HV.out p q (by omega) hlt3 (by rw [e1, e2]; exact hnm))
                  rw [hnm] at q0
                  have heq : ((ms.getD p zMd).nm.toList == (ms.getD p zMd).nm.toList) = true := by simp
                  generalize ms.getD p zMd = M at *
                  clear hv B H e1 e2 hnm
                  go_wp2_with fail
                  go_quiet (fail)
                  go_wp2
                  go_ret
                  exact ⟨ret_int HS.out.symm, below_dN HB4.out nq⟩
                · have hne := str_ne hnm
                  have HQ2 := hide (show ∀ k, k < q + 1 → ((pmS ms).getD k zP).nm ≠ ((pmS ms).getD p zP).nm from fun k hk => by
                    by_cases e : k = q
                    · subst e; rw [e1, e2]; exact hnm
                    · exact HQ.out k (by omega))
                  generalize (ms.getD p zMd).nm = N1 at *
                  generalize (ms.getD q zMd).nm = N2 at *
                  clear hv B H e1 e2 hnm
                  go_wp2_with fail
                  go_quiet (fail)
                  go_wp2
                  go_roundw
                  case rel => exact ⟨q + 1, by omega, by go_num, HQ2.out, below_dN HB4.out nq⟩
                  case measure => simp [intOf]; omega
              · have hlt3' : ¬ (q : Int) < (p : Int) := by omega
                have HQ2 := hide (show ∀ i, i < p + 1 → ∀ k, k < i → ((pmS ms).getD k zP).nm ≠ ((pmS ms).getD i zP).nm from fun i hi k hk => by
                  by_cases e : i = p
                  · subst e; exact hv k (by omega)
                  · exact HP.out i (by omega) k hk)
                have HB4 := hide B
                clear hv B
                go_wp2
                go_roundw
                case rel => exact ⟨p + 1, by omega, by go_num, HQ2.out, HB4.out⟩
                case measure => simp [intOf]; omega
          · have hlt2' : ¬ (p : Int) < (n : Int) := by omega
            have HS := hide (snd4_0 (ps := pmS ms) hcf HN2.out HV.out (fun i hi k hk => hv i (by omega) k hk))
            have HB3 := hide B
            clear hv B
            go_wp2
            go_ret
            exact ⟨ret_int HS.out.symm, HB3.out⟩
end Go.Proofs.YtngdgogjlpjjpaeGreat

namespace Go.Proofs.YtngdgogjlpjjpaeGreat
open Go.RowKit
set_option linter.unusedVariables false
set_option linter.unusedSimpArgs false
set_option maxRecDepth 100000

theorem turn_set (w : World) (g i : Nat) (v : Value) : Turn (fun j => j = g) w (w.setCell ⟨g, i, none⟩ v) := ⟨rfl, rfl, rfl, by rw [size_setCell]; exact Nat.le_refl _, fun k _ hk => heap_setCell_other _ _ _ _ hk⟩
/-- A ROW OF THE CALL'S OWN, elements of sz cells. -/
def OG {α : Type} (t : TypeId) (sz : Nat) (f : α → List Value) (w : World) (base : Nat) (v : Value) (xs : List α) : Prop := w.ownsRow base t sz v xs.length (xs.flatMap f)
theorem OG.below {α : Type} {t : TypeId} {sz : Nat} {f : α → List Value} {w w' : World} {base : Nat} {v : Value} {xs : List α} (h : OG t sz f w base v xs) (hb : Below w.heap.size w w') : OG t sz f w' base v xs := by
  obtain ⟨hl, h0 | ⟨g, cap, cur, hv, hg, hh, h1, h2, h3, h4⟩⟩ := h
  · exact ⟨hl, .inl h0⟩
  · exact ⟨hl, .inr ⟨g, cap, cur, hv, hg, Blk.below (w := w) hh hb, h1, h2, h3, h4⟩⟩
theorem OG.mono {α : Type} {t : TypeId} {sz : Nat} {f : α → List Value} {w : World} {base base' : Nat} {v : Value} {xs : List α} (h : OG t sz f w base v xs) (hb : base' ≤ base) : OG t sz f w base' v xs := by
  obtain ⟨hl, h0 | ⟨g, cap, cur, hv, hg, hh, h1, h2, h3, h4⟩⟩ := h
  · exact ⟨hl, .inl h0⟩
  · exact ⟨hl, .inr ⟨g, cap, cur, hv, by omega, hh, h1, h2, h3, h4⟩⟩
theorem OG.turn {α : Type} {t : TypeId} {sz : Nat} {f : α → List Value} {S : Nat → Prop} {w w' : World} {base : Nat} {v : Value} {xs : List α} (h : OG t sz f w base v xs) (ht : Turn S w w') (hS : ∀ k, S k → ¬ base ≤ k) : OG t sz f w' base v xs := by
  obtain ⟨hl, h0 | ⟨g, cap, cur, hv, hg, hh, h1, h2, h3, h4⟩⟩ := h
  · exact ⟨hl, .inl h0⟩
  · exact ⟨hl, .inr ⟨g, cap, cur, hv, hg, turn_blk (w := w) ht hh (fun s => hS g s hg), h1, h2, h3, h4⟩⟩
theorem OG.lt {α : Type} {t : TypeId} {sz : Nat} {f : α → List Value} {w : World} {base : Nat} {v : Value} {xs : List α} (h : OG t sz f w base v xs) : ∀ k, v.ownBlock = some k → base ≤ k ∧ k < w.heap.size := World.ownsRow.lt h
theorem og_nil {α : Type} (t : TypeId) (sz : Nat) (f : α → List Value) (w : World) (base : Nat) : OG t sz f w base (.slice none 0 0) [] := ⟨by simp, .inl ⟨rfl, rfl⟩⟩
theorem og_shape {α : Type} {t : TypeId} {sz : Nat} {f : α → List Value} {w : World} {base : Nat} {v : Value} {xs : List α} (h : OG t sz f w base v xs) : ∃ a c, v = .slice a xs.length c := by
  obtain ⟨hl, ⟨h0, h1⟩ | ⟨g, cap, cur, hv, _⟩⟩ := h
  · exact ⟨none, 0, by rw [h0, h1]⟩
  · exact ⟨_, _, hv⟩
theorem turn_grown {S : Nat → Prop} {w W W' : World} {row : Option Nat} (h : Turn S w W) (hg : W.grownBy W' row) (hr : ∀ k, row = some k → w.heap.size ≤ k) : Turn S w W' :=
  ⟨hg.os.trans h.os, hg.tape.trans h.tape, hg.output.trans h.output, Nat.le_trans h.size hg.size, fun k hk hs => (hg.block k (Nat.lt_of_lt_of_le hk h.size) (fun e => by have := hr k e.symm; omega)).trans (h.block k hk hs)⟩
theorem cells_new (w : World) (cs : Array Value) (t : TypeId) (xs : List Value) (h : cs = xs.toArray) : ∀ j u, xs[j]? = some u → (w.alloc (.cells cs t)).cell? ((⟨w.heap.size, 0, none⟩ : Addr).add j) = some u := by
  intro j u hj
  subst h
  rw [addr_add, Nat.zero_add, Blk.cell (Blk.new w _ _)]
  simpa using hj

def clI (x : Int) : List Value := [.int .i64 x]

def clT (x : ByteArray) : List Value := [.string x]

def clX (x : Ex) : List Value := [.string x.1, .int .i64 x.2.1, .int .i64 x.2.2]

theorem turn_new' {S : Nat → Prop} {w W : World} (h : Turn S w W) {k : Nat} (hk : w.heap.size ≤ k) (i : Nat) (v : Value) : Turn S w (W.setCell ⟨k, i, none⟩ v) :=
  ⟨h.os, h.tape, h.output, by rw [size_setCell]; exact h.size, fun j hj hs => by rw [heap_setCell_other _ _ _ _ (by show j ≠ k; omega)]; exact h.block j hj hs⟩

/-- rows of rows of the call's own -/
structure OBk (w : World) (base : Nat) (v : Value) (bl : List Bk) : Prop where
  head : w.ownsRow base 24 1 v bl.length (bl.map fun B => Value.slice B.1 B.2.1 B.2.2.1)
  rows : ∀ B ∈ bl, B.2.1 = B.2.2.2.length ∧ OG 3 1 clI w base (.slice B.1 B.2.1 B.2.2.1) B.2.2.2
  apart : bl.Pairwise fun A B => ∀ k, (Value.slice A.1 A.2.1 A.2.2.1).ownBlock = some k → (Value.slice B.1 B.2.1 B.2.2.1).ownBlock ≠ some k
theorem own_kind {w : World} {base n sz : Nat} {t : TypeId} {v : Value} {xs : List Value} {k : Nat} (h : w.ownsRow base t sz v n xs) (hk : v.ownBlock = some k) : ∃ cur, Blk w k cur t := by
  obtain ⟨hl, ⟨h0, _⟩ | ⟨g, cap, cur, hv, _, hh, _⟩⟩ := h
  · subst h0; simp [Value.ownBlock] at hk
  · subst hv
    simp [Value.ownBlock] at hk
    subst hk
    exact ⟨cur, hh⟩
theorem blk_kind {w : World} {k : Nat} {cs cs' : Array Value} {t t' : TypeId} (h : Blk w k cs t) (h' : Blk w k cs' t') : t = t' := by
  unfold Blk at h h'
  rw [h] at h'
  simp at h'
  exact h'.2
theorem OG.grown {α : Type} {t : TypeId} {sz : Nat} {f : α → List Value} {w w' : World} {base : Nat} {v : Value} {xs : List α} {row : Option Nat} (h : OG t sz f w base v xs) (hg : w.grownBy w' row) (hk : v.ownBlock = none ∨ v.ownBlock ≠ row) : OG t sz f w' base v xs := World.ownsRow.kept h hg hk
theorem OBk.turn {S : Nat → Prop} {w w' : World} {base : Nat} {v : Value} {bl : List Bk} (h : OBk w base v bl) (ht : Turn S w w') (hS : ∀ k, S k → ¬ base ≤ k) : OBk w' base v bl := by
  refine ⟨?_, fun B hB => ⟨(h.rows B hB).1, (h.rows B hB).2.turn ht hS⟩, h.apart⟩
  obtain ⟨hl, h0 | ⟨g, cap, cur, hv, hg, hh, h1, h2, h3, h4⟩⟩ := h.head
  · exact ⟨hl, .inl h0⟩
  · exact ⟨hl, .inr ⟨g, cap, cur, hv, hg, turn_blk (w := w) ht hh (fun s => hS g s hg), h1, h2, h3, h4⟩⟩
theorem OBk.lt {w : World} {base : Nat} {v : Value} {bl : List Bk} (h : OBk w base v bl) : ∀ k, v.ownBlock = some k → base ≤ k ∧ k < w.heap.size := h.head.lt
theorem obk_nil (w : World) (base : Nat) : OBk w base (.slice none 0 0) [] := ⟨⟨by simp, .inl ⟨rfl, rfl⟩⟩, by simp, by simp⟩
theorem obk_shape {w : World} {base : Nat} {v : Value} {bl : List Bk} (h : OBk w base v bl) : ∃ a c, v = .slice a bl.length c := by
  obtain ⟨hl, ⟨h0, h1⟩ | ⟨g, cap, cur, hv, _⟩⟩ := h.head
  · exact ⟨none, 0, by rw [h0, h1]⟩
  · exact ⟨_, _, hv⟩
/-- one more row behind the others -/
theorem OBk.push {W W' : World} {base lo : Nat} {a : Option Addr} {k c : Nat} {bl : List Bk} {v' : Value} {A : Option Addr} {C : Nat} {x : List Int} (h : OBk W base (.slice a k c) bl) (hl : bl.length = k) (hx : OG 3 1 clI W lo (.slice A x.length C) x) (hb : base ≤ lo) (hlo : ∀ B ∈ bl, ∀ j, (Value.slice B.1 B.2.1 B.2.2.1).ownBlock = some j → j < lo)
    (hown : W'.ownsRow base 24 1 v' (k + 1) (bl.map (fun B => Value.slice B.1 B.2.1 B.2.2.1) ++ [.slice A x.length C])) (hg : W.grownBy W' (Value.slice a k c).ownBlock) : OBk W' base v' (bl ++ [(A, x.length, C, x)]) := by
  have hne : ∀ (v : Value) (xs : List Int) (lo : Nat), OG 3 1 clI W lo v xs → v.ownBlock = none ∨ v.ownBlock ≠ (Value.slice a k c).ownBlock := fun v xs lo ho => by
    cases e : v.ownBlock with
    | none => exact .inl rfl
    | some j =>
      refine .inr (fun e' => ?_)
      obtain ⟨c1, k1⟩ := own_kind ho e
      obtain ⟨c2, k2⟩ := own_kind h.head e'.symm
      exact absurd (blk_kind k1 k2) (by decide)
  refine ⟨?_, ?_, ?_⟩
  · rw [List.length_append, hl, List.map_append]
    exact hown
  · intro B hB
    rcases List.mem_append.1 hB with hB | hB
    · exact ⟨(h.rows B hB).1, (h.rows B hB).2.grown hg (hne _ _ _ (h.rows B hB).2)⟩
    · simp at hB
      subst hB
      exact ⟨rfl, (hx.grown hg (hne _ _ _ hx)).mono hb⟩
  · rw [List.pairwise_append]
    refine ⟨h.apart, by simp, fun B hB X hX j hj e => ?_⟩
    simp at hX
    subst hX
    have h1 := hlo B hB j hj
    have h2 := (hx.lt j e).1
    omega
theorem OBk.mono {w : World} {base base' : Nat} {v : Value} {bl : List Bk} (h : OBk w base v bl) (hb : base' ≤ base) : OBk w base' v bl := by
  refine ⟨?_, fun B hB => ⟨(h.rows B hB).1, (h.rows B hB).2.mono hb⟩, h.apart⟩
  obtain ⟨hl, h0 | ⟨g, cap, cur, hv, hg, hh, h1, h2, h3, h4⟩⟩ := h.head
  · exact ⟨hl, .inl h0⟩
  · exact ⟨hl, .inr ⟨g, cap, cur, hv, by omega, hh, h1, h2, h3, h4⟩⟩
theorem flat_one {α : Type} (f : α → Value) : ∀ xs : List α, xs.flatMap (fun x => [f x]) = xs.map f
  | [] => rfl
  | x :: xs => by rw [List.flatMap_cons, flat_one f xs]; rfl
theorem flat_clI (xs : List Int) : xs.flatMap clI = xs.map (Value.int .i64) := flat_one _ xs
theorem flat_clT (xs : List ByteArray) : xs.flatMap clT = xs.map Value.string := flat_one _ xs
theorem flat_clX : ∀ (xs : List Ex) (i : Nat), i < xs.length → (xs.flatMap clX)[i * 3]? = some (.string (xs.getD i zE).1) ∧ (xs.flatMap clX)[i * 3 + 1]? = some (.int .i64 (xs.getD i zE).2.1) ∧ (xs.flatMap clX)[i * 3 + 2]? = some (.int .i64 (xs.getD i zE).2.2)
  | [], i, h => by simp at h
  | x :: xs, 0, h => ⟨rfl, rfl, rfl⟩
  | x :: xs, i + 1, h => by
    have ih := flat_clX xs i (by simpa using h)
    have e : ∀ d, ((x :: xs).flatMap clX)[(i + 1) * 3 + d]? = (xs.flatMap clX)[i * 3 + d]? := fun d => by
      rw [List.flatMap_cons, List.getElem?_append_right (by simp [clX]; omega)]
      congr 1
      simp [clX]
      omega
    have e0 := e 0
    simp only [Nat.add_zero] at e0
    refine ⟨e0.trans ih.1, (e 1).trans ih.2.1, (e 2).trans ih.2.2⟩
theorem og_parts {α : Type} {t : TypeId} {sz : Nat} {f : α → List Value} {w : World} {base n c : Nat} {a : Option Addr} {xs : List α} (h : OG t sz f w base (.slice a n c) xs) : xs.length = n ∧ n ≤ maxLen ∧ n ≤ c ∧ (n ≠ 0 → ∃ g, a = some ⟨g, 0, none⟩ ∧ ∀ j u, (xs.flatMap f)[j]? = some u → w.cell? ⟨g, j, none⟩ = some u) := by
  have hc := fun g hg => World.ownsRow.cells h (g := g) hg
  obtain ⟨hl, ⟨h0, h1⟩ | ⟨g, cap, cur, hv, hg, hh, h1, h2, h3, h4⟩⟩ := h
  · simp at h0
    obtain ⟨rfl, rfl, rfl⟩ := h0
    exact ⟨h1, Nat.zero_le _, Nat.le_refl _, fun hn => absurd rfl hn⟩
  · simp at hv
    obtain ⟨rfl, rfl, rfl⟩ := hv
    refine ⟨rfl, by omega, h1, fun hn => ⟨g, rfl, fun j u hj => ?_⟩⟩
    have := hc g rfl j u hj
    rwa [addr_add, Nat.zero_add] at this
theorem og_is {w : World} {base n c : Nat} {a : Option Addr} {xs : List Int} (h : OG 3 1 clI w base (.slice a n c) xs) (hx : ∀ z ∈ xs, wfi z) : IS w a n c xs := by
  obtain ⟨h1, h2, h3, h4⟩ := og_parts h
  refine ⟨h1, h2, hx, fun hn => ?_, h3⟩
  obtain ⟨g, rfl, hc⟩ := h4 hn
  refine ⟨g, 0, rfl, fun i hi => ?_⟩
  rw [Nat.zero_add]
  refine hc i _ ?_
  rw [flat_clI]
  simp [List.getD_eq_getElem?_getD, show i < xs.length by omega]
theorem og_ss {w : World} {base n c : Nat} {a : Option Addr} {xs : List ByteArray} (h : OG 9 1 clT w base (.slice a n c) xs) (hx : ∀ s ∈ xs, s.size ≤ 1048576) : SS w a n c xs := by
  obtain ⟨h1, h2, h3, h4⟩ := og_parts h
  refine ⟨h1, h2, hx, fun hn => ?_, h3⟩
  obtain ⟨g, rfl, hc⟩ := h4 hn
  refine ⟨g, 0, rfl, fun i hi => ?_⟩
  rw [Nat.zero_add]
  refine hc i _ ?_
  rw [flat_clT]
  simp [List.getD_eq_getElem?_getD, show i < xs.length by omega]
theorem og_es {w : World} {base n c : Nat} {a : Option Addr} {xs : List Ex} (h : OG 207 3 clX w base (.slice a n c) xs) (hx : ∀ s ∈ xs, s.1.size ≤ 1048576) : ES w a n c xs := by
  obtain ⟨h1, h2, h3, h4⟩ := og_parts h
  refine ⟨h1, h2, hx, fun hn => ?_, h3⟩
  obtain ⟨g, rfl, hc⟩ := h4 hn
  refine ⟨g, 0, rfl, fun i hi => ?_⟩
  rw [Nat.zero_add]
  obtain ⟨f0, f1, f2⟩ := flat_clX xs i (by omega)
  exact ⟨hc _ _ f0, hc _ _ f1, hc _ _ f2⟩
theorem obk_bks {w : World} {base n c : Nat} {a : Option Addr} {bl : List Bk} (h : OBk w base (.slice a n c) bl) (hx : ∀ B ∈ bl, ∀ z ∈ B.2.2.2, wfi z) : BKS w a n c bl := by
  have hh : OG 24 1 (fun B : Bk => [Value.slice B.1 B.2.1 B.2.2.1]) w base (.slice a n c) bl := by unfold OG; rw [flat_one]; exact h.head
  obtain ⟨h1, h2, h3, h4⟩ := og_parts hh
  refine ⟨h1, h2, fun hn => ?_, fun i hi => ?_, h3⟩
  · obtain ⟨g, rfl, hc⟩ := h4 hn
    refine ⟨g, 0, rfl, fun i hi => ?_⟩
    rw [Nat.zero_add]
    refine hc i _ ?_
    rw [flat_one]
    simp [List.getD_eq_getElem?_getD, show i < bl.length by omega]
  · have hm : bl.getD i zB ∈ bl := by simp [List.getD_eq_getElem?_getD, show i < bl.length by omega]
    obtain ⟨e, o⟩ := h.rows _ hm
    exact og_is o (hx _ hm)
/-- a row stays where its block is left alone -/
theorem OG.kept {α : Type} {t : TypeId} {sz : Nat} {f : α → List Value} {S : Nat → Prop} {w w' : World} {base : Nat} {v : Value} {xs : List α} (h : OG t sz f w base v xs) (ht : Turn S w w') (hk : ∀ k, v.ownBlock = some k → ¬ S k) : OG t sz f w' base v xs := by
  obtain ⟨hl, h0 | ⟨g, cap, cur, hv, hg, hh, h1, h2, h3, h4⟩⟩ := h
  · exact ⟨hl, .inl h0⟩
  · exact ⟨hl, .inr ⟨g, cap, cur, hv, hg, turn_blk (w := w) ht hh (hk g (by rw [hv]; rfl)), h1, h2, h3, h4⟩⟩
theorem og_addr {α : Type} {t : TypeId} {sz : Nat} {f : α → List Value} {w : World} {base n c : Nat} {a : Option Addr} {xs : List α} (h : OG t sz f w base (.slice a n c) xs) (hn : n ≠ 0) : ∃ g, a = some ⟨g, 0, none⟩ := by
  obtain ⟨_, _, _, h4⟩ := og_parts h
  obtain ⟨g, hg, _⟩ := h4 hn
  exact ⟨g, hg⟩
end Go.Proofs.YtngdgogjlpjjpaeGreat

namespace Go.Proofs.YtngdgogjlpjjpaeGreat
open Go.RowKit
set_option linter.unusedVariables false
set_option linter.unusedSimpArgs false
set_option maxRecDepth 100000

/-- a number as bytes, the least first -/
def encN (v : Int) (s : Nat) : List Int := (List.range s).map (bt v)
theorem encN_len (v : Int) (s : Nat) : (encN v s).length = s := by simp [encN]
theorem encN_range (v : Int) (s : Nat) : ∀ z ∈ encN v s, 0 ≤ z ∧ z ≤ 255 := by
  intro z hz
  simp only [encN, List.mem_map] at hz
  obtain ⟨j, _, rfl⟩ := hz
  exact bt_range v j
theorem put_enc (v : Int) : ∀ s, s ≤ 4 → put (List.replicate s 0) 0 v s = encN v s
  | 0, _ => rfl
  | 1, _ => rfl
  | 2, _ => rfl
  | 3, _ => rfl
  | 4, _ => rfl
  | s + 5, h => by omega

theorem row_obE {w : World} {g base n : Nat} {zs : List Int} (h : Row8 w g zs) (hb : base ≤ g) (hn : zs.length = n) (hm : n ≤ maxLen) (hr : ∀ z ∈ zs, 0 ≤ z ∧ z ≤ 255) : OB w base (.slice (some ⟨g, 0, none⟩) n n) zs := by
  subst hn
  exact ⟨⟨by simp, .inr ⟨g, zs.length, _, rfl, hb, h, Nat.le_refl _, hm, by simp, by rw [List.take_of_length_le (by simp)]⟩⟩, hr⟩

set_option maxHeartbeats 1000000 in
theorem l4Num_any (v : Int) (s : Nat) (w : World) (hs : s = 1 ∨ s = 2 ∨ s = 4) (h0 : 0 ≤ v) (h1 : v ≤ 4294967295) :
    Calls Tryz.prog 158 #[.int .i64 v, .int .i64 s] w fun e w' => e = .returned (.slice (some ⟨w.heap.size, 0, none⟩) s s) ∧ OB w' w.heap.size (.slice (some ⟨w.heap.size, 0, none⟩) s s) (encN v s) ∧ Below w.heap.size w w' := by
  obtain ⟨i0, hi, hz0, hz1, hz2⟩ := info_parts info8
  have hs4 : s ≤ 4 := by omega
  have hs1 : 1 ≤ s := by omega
  clear hs
  go_enter Tryz.func158, Tryz.ntmps158
  go_wp2_with (at_make; refine wpList_make_full _ rfl _ _ 41 rfl w.heap.size 5 i0 (.int .u8 0) 1 Tryz.underlying41 hi hz0 hz1 .i64 .i64 _ _ s rfl rfl rfl rfl (by rw [hz2]; omega) (by unfold maxLen; omega) (Nat.le_refl _) ?_; intro w1 hown hgr)
  have hrow := row_of_made hown
  have hbel := below_grown hgr
  clear hown hgr hi hz0 hz1 hz2
  have ho := row_obE (n := s) hrow (Nat.le_refl w.heap.size) (by simp) (by unfold maxLen; omega) (by intro z hz; simp at hz; omega)
  go_wp2_with fail
  refine (l1Put_any w.heap.size s s 0 s v w1 (ob_room ho) (by omega) (by omega) (by omega) (by omega) h0 h1).mono ?_
  rintro e w2 ⟨rfl, rfl⟩
  have hp := ob_put ho 0 v s (by omega)
  rw [put_enc v s hs4] at hp
  have hbp := only_below hbel (only_put w.heap.size 0 v w1 s) (Nat.le_refl _)
  have HX := hide (And.intro hp hbp)
  clear hp hbp ho hbel hrow
  have e : (s : Int).toNat = s := by omega
  rw [e]
  generalize putW w1 w.heap.size 0 v s = W at *
  go_wp2
  go_ret
  exact ⟨rfl, HX.out.1, HX.out.2⟩
end Go.Proofs.YtngdgogjlpjjpaeGreat
