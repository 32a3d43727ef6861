import Derived.Test.YtngdgogjlpjjpaeGreatJ00
import Derived.Test.YtngdgogjlpjjpaeGreatJ19
import Derived.Test.YtngdgogjlpjjpaeGreatJ22
import Derived.Deep.RegionHeld3
namespace Go.Proofs.YtngdgogjlpjjpaeGreat
open Go.RowKit
set_option linter.unusedVariables false

/-- WHAT A VALID CONFIGURATION IS. -/
def cfo (s w k d : Int) : Bool := decide (0 ≤ s ∧ s ≤ 4 ∧ 1 ≤ w ∧ w ≤ 64 ∧ 0 ≤ k ∧ k ≤ 1024 ∧ k % 32 = 0 ∧ 0 ≤ d ∧ d ≤ 100)

set_option maxHeartbeats 400000 in
theorem grained_any (x : Int) (w : World) :
    Calls Tryz.prog 164 #[.int .i64 x] w fun e w' => e = .returned (.bool (decide (0 ≤ x ∧ x % 32 = 0))) ∧ w = w' := by
  go_enter Tryz.func164, Tryz.ntmps164
  go_wp2
  all_goals
    go_ret
    refine ⟨ret_bool ?_, rfl⟩
    rw [Bool.eq_iff_iff]
    simp
    try omega
set_option maxHeartbeats 400000 in
theorem upTo_any (v m : Int) (w : World) :
    Calls Tryz.prog 165 #[.int .i64 v, .int .i64 m] w fun e w' => e = .returned (.bool (decide (0 ≤ v ∧ v ≤ m))) ∧ w = w' := by
  go_enter Tryz.func165, Tryz.ntmps165
  go_wp2
  all_goals
    go_ret
    refine ⟨ret_bool ?_, rfl⟩
    rw [Bool.eq_iff_iff]
    simp
    try omega

set_option maxHeartbeats 1000000 in
theorem sConfigOk_any (s c k d : Int) (w : World) :
    Calls Tryz.prog 71 #[.agg #[.int .i64 s, .int .i64 c, .int .i64 k, .int .i64 d]] w fun e w' => e = .returned (.bool (cfo s c k d)) ∧ Below w.heap.size w w' := by
  have HB := hide ((Below.refl w.heap.size w).alloc (Nat.le_refl _) (.cells #[.int .i64 s, .int .i64 c, .int .i64 k, .int .i64 d] 44))
  go_enter Tryz.func71, Tryz.ntmps71
  go_wp2
  all_goals
    go_ret
    refine ⟨ret_bool ?_, HB.out⟩
    unfold cfo
    rw [Bool.eq_iff_iff]
    simp
    try omega

set_option maxHeartbeats 1000000 in
theorem iConfigOk_any (s c k d : Int) (w : World) :
    Calls Tryz.prog 74 #[.agg #[.int .i64 s, .int .i64 c, .int .i64 k, .int .i64 d]] w fun e w' => e = .returned (.bool (cfo s c k d)) ∧ Below w.heap.size w w' := by
  have HB := hide ((Below.refl w.heap.size w).alloc (Nat.le_refl _) (.cells #[.int .i64 s, .int .i64 c, .int .i64 k, .int .i64 d] 44))
  have HF : ∀ b : Bool, b = cfo s c k d ↔ (b = true ↔ (0 ≤ s ∧ s ≤ 4 ∧ 1 ≤ c ∧ c ≤ 64 ∧ 0 ≤ k ∧ k ≤ 1024 ∧ k % 32 = 0 ∧ 0 ≤ d ∧ d ≤ 100)) := fun b => by unfold cfo; rw [Bool.eq_iff_iff]; simp
  have HF := hide HF
  go_enter Tryz.func74, Tryz.ntmps74
  go_wp2_with (first
    | (go_at_call 164; refine (grained_any _ _).mono ?_; rintro e w1 ⟨rfl, rfl⟩)
    | (go_at_call 165; refine (upTo_any _ _ _).mono ?_; rintro e w1 ⟨rfl, rfl⟩))
  all_goals
    go_ret
    refine ⟨ret_bool ?_, HB.out⟩
    rw [HF.out]
    simp_all
    try omega

set_option maxHeartbeats 1000000 in
theorem toConfig_any (s c k d : Int) (w : World) :
    Calls Tryz.prog 37 #[.agg #[.int .i64 s, .int .i64 c, .int .i64 k, .int .i64 d]] w fun e w' => e = .returned (.agg #[.int .i64 s, .int .i64 c, .int .i64 k, .int .i64 d]) ∧ Below w.heap.size w w' := by
  go_enter Tryz.func37, Tryz.ntmps37
  go_wp2
  refine bodyPost_ret (v := .agg #[.int .i64 s, .int .i64 c, .int .i64 k, .int .i64 d]) (by simp [results, Tryz.results37, go_sem]) rfl ⟨rfl, ?_⟩
  exact ((((Below.refl _ _).alloc (Nat.le_refl _) _).alloc (by simp) _).alloc (by simp; omega) _)
end Go.Proofs.YtngdgogjlpjjpaeGreat

namespace Go.Proofs.YtngdgogjlpjjpaeGreat
open Go.RowKit
set_option linter.unusedVariables false
set_option linter.unusedSimpArgs false
set_option maxRecDepth 100000

/-- WHAT A MODULE HOLDS -/
def Md.pm (m : Md) : PMod := ⟨m.nm, m.tz, m.bl.map (fun B => B.2.2.2), m.dz, m.bss, m.rz, m.ss, m.es⟩
def zP : PMod := ⟨⟨#[]⟩, [], [], [], 0, [], [], []⟩
/-- a module with these things, wherever -/
def dm (P : PMod) : Md := ⟨P.nm, none, P.tz.length, P.tz.length, P.tz, none, P.bl.length, P.bl.length, bkOf P.bl, none, P.dz.length, P.dz.length, P.dz, P.bss, none, P.rz.length, P.rz.length, P.rz, none, P.ss.length, P.ss.length, P.ss, none, P.es.length, P.es.length, P.es⟩
def Md.md (m : Md) (w : World) : Prop := MD w m.nm m.ta m.tn m.tc m.tz m.ba m.bn m.bc m.bl m.da m.dn m.dc m.dz m.bss m.ra m.rn m.rc m.rz m.ia m.im m.ic m.ss m.ea m.en m.ec m.es
theorem md_mdo {m : Md} {w : World} (h : m.md w) : mdo m.nm m.tn m.tz m.bn m.bl m.dn m.bss m.rn m.rz m.im m.ss m.en m.es = mdoP m.pm := by
  have hb := h.b.1
  have e : m.pm.bl.length = m.bn := by simp [Md.pm, hb]
  unfold mdoP
  rw [show m.pm.tz.length = m.tn from h.t.1, show m.pm.dz.length = m.dn from h.d.1, show m.pm.rz.length = m.rn from h.r.1, show m.pm.ss.length = m.im from h.i.1, show m.pm.es.length = m.en from h.e.1, e, ← hb]
  refine mdo_bks (by rw [hb]; simp [bkOf, e]) (fun i hi => ?_)
  have hr := (h.b.2.2.2.1 i (by omega)).1
  have e2 : (bkOf m.pm.bl).getD i zB = (none, (m.bl.getD i zB).2.2.2.length, (m.bl.getD i zB).2.2.2.length, (m.bl.getD i zB).2.2.2) := by
    simp [bkOf, Md.pm, List.getD_eq_getElem?_getD, hi]
  rw [e2]
  exact ⟨hr.symm, rfl⟩
/-- A TARGET, found by its name -/
abbrev Tg := Int × Int × Int
def tgOf (ps : List PMod) (s : ByteArray) : Option Tg := (rsT ps.length (ps.map dm) s).map fun x => ((x.1 : Int), ((ps.getD x.1 zP).es.getD x.2 zE).2.1, ((ps.getD x.1 zP).es.getD x.2 zE).2.2)
def tgV : Option Tg → Value
  | some t => .tuple #[.agg #[.int .i64 t.1, .int .i64 t.2.1, .int .i64 t.2.2], .bool true]
  | none => .tuple #[.agg #[.int .i64 0, .int .i64 0, .int .i64 0], .bool false]
theorem getD_map {α β : Type} (f : α → β) (l : List α) (i : Nat) (a : α) (b : β) (h : i < l.length) : (l.map f).getD i b = f (l.getD i a) := by
  simp [List.getD_eq_getElem?_getD, h]
theorem rsv_tg {n : Nat} {ms : List Md} {s : ByteArray} (hl : ms.length = n) (he : ∀ i, i < n → (ms.getD i zMd).es.length = (ms.getD i zMd).en) : rsv n ms s = tgV (tgOf (ms.map Md.pm) s) := by
  have hr : rsT (ms.map Md.pm).length ((ms.map Md.pm).map dm) s = rsT n ms s := by
    rw [List.length_map, hl]
    refine rsT_congr (fun i hi => ?_)
    rw [List.map_map, getD_map _ _ _ zMd _ (by omega)]
    exact ⟨rfl, by rw [← he i hi]; rfl, rfl⟩
  unfold tgOf rsv
  rw [hr]
  cases e : rsT n ms s with
  | none => rfl
  | some x =>
    obtain ⟨i, k⟩ := x
    have hi := rsT_lt e
    have hg : (ms.map Md.pm).getD i zP = (ms.getD i zMd).pm := getD_map _ _ _ zMd _ (by omega)
    simp only [Option.map_some, tgV, hg]
    rfl
def zT : Tg := (0, 0, 0)
def tgOk (ps : List PMod) (P : PMod) : Prop := ∀ i, i < P.ss.length → (tgOf ps (P.ss.getD i zS)).isSome = true
def tgs (ps : List PMod) (P : PMod) : List Tg := (List.range P.ss.length).map fun i => (tgOf ps (P.ss.getD i zS)).getD zT
/-- whole grains -/
def rnd (x : Int) : Int := (x + 31) / 32 * 32
/-- what the first banks take -/
def fsum (P : PMod) : Nat → Int
  | 0 => 0
  | k + 1 => fsum P k + rnd (4 * ((P.bl.getD k []).length : Int))
def tsz (P : PMod) : Int := rnd (4 * (P.tz.length : Int))
def msz (P : PMod) : Int := tsz P + fsum P P.bl.length
def dsz (P : PMod) : Int := rnd ((P.dz.length : Int) + P.bss)
/-- what the first modules take -/
def Fl (ps : List PMod) : Nat → Int
  | 0 => 0
  | i + 1 => Fl ps i + msz (ps.getD i zP)
def Ra (ps : List PMod) : Nat → Int
  | 0 => 0
  | i + 1 => Ra ps i + dsz (ps.getD i zP)
/-- A PLACE -/
structure Pl where
  text : Int
  banks : List Int
  data : Int
  size : Int
def plc (ps : List PMod) (i : Nat) : Pl := ⟨Fl ps i, (List.range (ps.getD i zP).bl.length).map fun k => Fl ps i + tsz (ps.getD i zP) + fsum (ps.getD i zP) k, 65536 + Ra ps i, dsz (ps.getD i zP)⟩
/-- A LAYOUT -/
structure Lay where
  places : List Pl
  stack : Int
  slots : List Int
  flash : Int
  ram : Int
  targets : List (List Tg)
def slt (ps : List PMod) (w k : Int) (i : Nat) : Int := 65536 + Ra ps ps.length + k + (i : Int) * rnd (4 * w)
def lay (ps : List PMod) (s w k : Int) : Lay := ⟨(List.range ps.length).map (plc ps), 65536 + Ra ps ps.length, (List.range s.toNat).map (slt ps w k), Fl ps ps.length, Ra ps ps.length + k + (s.toNat : Int) * rnd (4 * w), (List.range ps.length).map fun i => tgs ps (ps.getD i zP)⟩
/-- the modules are valid; their names differ; their imports are there; their banks are short enough -/
def vlds (ps : List PMod) : Prop := ∀ i, i < ps.length → mdoP (ps.getD i zP) = 0
def nms (ps : List PMod) : Prop := ∀ i, i < ps.length → ∀ k, k < i → (ps.getD k zP).nm ≠ (ps.getD i zP).nm
def imps (ps : List PMod) : Prop := ∀ i, i < ps.length → tgOk ps (ps.getD i zP)
def shrt (ps : List PMod) (w : Int) : Prop := ∀ i, i < ps.length → ∀ k, k < (ps.getD i zP).bl.length → (((ps.getD i zP).bl.getD k []).length : Int) ≤ w
instance (ps : List PMod) : Decidable (vlds ps) := by unfold vlds; infer_instance
instance (ps : List PMod) : Decidable (nms ps) := by unfold nms; infer_instance
instance (ps : List PMod) (P : PMod) : Decidable (tgOk ps P) := by unfold tgOk; infer_instance
instance (ps : List PMod) : Decidable (imps ps) := by unfold imps; infer_instance
instance (ps : List PMod) (w : Int) : Decidable (shrt ps w) := by unfold shrt; infer_instance
def snd4 (ps : List PMod) (s w k d : Int) : Int :=
  if cfo s w k d = false then 1 else if ps.length < 1 ∨ 4 < ps.length then 2 else if ¬ vlds ps then 3 else if ¬ nms ps then 4 else 0
/-- WHAT Link GIVES -/
def lkc (ps : List PMod) (s w k d : Int) : Int :=
  if snd4 ps s w k d ≠ 0 then snd4 ps s w k d else if ¬ imps ps then 5 else if 0 < s ∧ ¬ shrt ps w then 6 else if 16384 < (lay ps s w k).flash then 7 else if 16384 < (lay ps s w k).ram then 8 else 0
/-- A SLICE OF MODULES whose texts are counted -/
structure MSD (w : World) (a : Option Addr) (n cap : Nat) (ms : List Md) : Prop where
  s : MS w a n cap ms
  d : ∀ i, i < n → (ms.getD i zMd).md w
theorem MSD.below {w w' : World} {a : Option Addr} {n cap : Nat} {ms : List Md} (h : MSD w a n cap ms) (hb : Below w.heap.size w w') : MSD w' a n cap ms := ⟨h.s.below hb, fun i hi => MD.below (h.d i hi) hb⟩
/-- the things of the modules -/
def pmS (ms : List Md) : List PMod := ms.map Md.pm
theorem pmS_len (ms : List Md) : (pmS ms).length = ms.length := by simp [pmS]
theorem pmS_at {ms : List Md} {i : Nat} (h : i < ms.length) : (pmS ms).getD i zP = (ms.getD i zMd).pm := getD_map _ _ _ zMd _ h
end Go.Proofs.YtngdgogjlpjjpaeGreat

namespace Go.Proofs.YtngdgogjlpjjpaeGreat
open Go.RowKit
set_option linter.unusedVariables false
set_option linter.unusedSimpArgs false
set_option maxRecDepth 100000

theorem snd4_1 {ps : List PMod} {s w k d : Int} (h : cfo s w k d = false) : snd4 ps s w k d = 1 := if_pos h
theorem snd4_2 {ps : List PMod} {s w k d : Int} (h : cfo s w k d = true) (h2 : ps.length < 1 ∨ 4 < ps.length) : snd4 ps s w k d = 2 := by
  unfold snd4; rw [if_neg (by rw [h]; decide), if_pos h2]
theorem snd4_3 {ps : List PMod} {s w k d : Int} (h : cfo s w k d = true) (h2 : ¬ (ps.length < 1 ∨ 4 < ps.length)) (i : Nat) (hi : i < ps.length) (h3 : mdoP (ps.getD i zP) ≠ 0) : snd4 ps s w k d = 3 := by
  unfold snd4; rw [if_neg (by rw [h]; decide), if_neg h2, if_pos (fun v => h3 (v i hi))]
theorem snd4_4 {ps : List PMod} {s w k d : Int} (h : cfo s w k d = true) (h2 : ¬ (ps.length < 1 ∨ 4 < ps.length)) (h3 : vlds ps) (i j : Nat) (hi : i < ps.length) (hj : j < i) (h4 : (ps.getD j zP).nm = (ps.getD i zP).nm) : snd4 ps s w k d = 4 := by
  unfold snd4; rw [if_neg (by rw [h]; decide), if_neg h2, if_neg (fun v => v h3), if_pos (fun v => v i hi j hj h4)]
theorem snd4_0 {ps : List PMod} {s w k d : Int} (h : cfo s w k d = true) (h2 : ¬ (ps.length < 1 ∨ 4 < ps.length)) (h3 : vlds ps) (h4 : nms ps) : snd4 ps s w k d = 0 := by
  unfold snd4; rw [if_neg (by rw [h]; decide), if_neg h2, if_neg (fun v => v h3), if_neg (fun v => v h4)]
theorem below_dN {B : Nat} {a W : World} (h : Below B a W) (n : Nat) : Below B a (W.drewN n) := ⟨h.os, h.tape, h.output, h.size, h.block⟩
theorem str_ne {a b : ByteArray} (h : a ≠ b) : (a.toList == b.toList) = false := by
  rw [beq_eq_false_iff_ne]
  intro e
  apply h
  rw [ByteArray.toList_eq, ByteArray.toList_eq] at e
  cases a
  cases b
  simp at e
  rw [e]

set_option maxHeartbeats 1000000 in
theorem l5Round_any (x : Int) (w : World) (h0 : 0 ≤ x) (h1 : x ≤ 4294967295) : Calls Tryz.prog 136 #[.int .i64 x] w fun e w' => e = .returned (.int .i64 (rnd x)) ∧ w' = w := by
  have hd : (x + 31).tdiv 32 = (x + 31) / 32 := Int.tdiv_eq_ediv_of_nonneg (by omega)
  go_enter Tryz.func136, Tryz.ntmps136
  go_wp2
  go_ret
  exact ⟨ret_int (by unfold rnd; rw [show x + 31 = x + 32 - 1 by omega]), rfl⟩

theorem Md.okS {m : Md} {w : World} (h : m.md w) : Calls Tryz.prog 154 #[.agg #[.string m.nm, .slice m.ta m.tn m.tc, .slice m.ba m.bn m.bc, .slice m.da m.dn m.dc, .int .i64 m.bss, .slice m.ra m.rn m.rc, .slice m.ia m.im m.ic, .slice m.ea m.en m.ec]] w fun e w' => e = .returned (.int .i64 (mdoP m.pm)) ∧ Below w.heap.size w w' := by
  have := sModuleOk_any _ _ _ _ _ _ _ _ _ _ _ _ _ _ _ _ _ _ _ _ _ _ _ _ _ _ w h
  rw [md_mdo h] at this
  exact this

set_option maxHeartbeats 4000000 in
theorem l5Sound_any (a : Option Addr) (n cap : Nat) (ms : List Md) (s c k d : Int) (w : World) (h : MSD w a n cap ms) :
    Calls Tryz.prog 159 #[.slice a n cap, .agg #[.int .i64 s, .int .i64 c, .int .i64 k, .int .i64 d]] w fun e w' => e = .returned (.int .i64 (snd4 (pmS ms) s c k d)) ∧ Below w.heap.size w w' := by
  have hA : Below w.heap.size w (w.alloc (.cells #[.int .i64 s, .int .i64 c, .int .i64 k, .int .i64 d] 44)) := (Below.refl _ _).alloc (Nat.le_refl _) _
  have hl := h.s.1
  have hm1 := h.s.2.1
  unfold maxLen at hm1
  have hpl := pmS_len ms
  have HH := hide h
  have HC := hide (fun W => sConfigOk_any s c k d W)
  clear h
  go_enter Tryz.func159, Tryz.ntmps159
  go_wp2_with fail
  refine (HC.out _).mono ?_
  rintro e w1 ⟨rfl, hb1⟩
  have HB1 := hide (hA.trans (hb1.mono (by simp)))
  clear hA hb1 HC
  cases hcf : cfo s c k d with
  | false =>
    have HS := hide (snd4_1 (ps := pmS ms) hcf)
    go_wp2
    go_ret
    exact ⟨ret_int HS.out.symm, HB1.out⟩
  | true =>
    by_cases hn2 : n < 1 ∨ 4 < n
    · have HS := hide (snd4_2 (ps := pmS ms) hcf (by omega))
      by_cases hn1 : n < 1
      · have hn1' : (n : Int) < 1 := by omega
        clear hn2
        go_wp2
        go_ret
        exact ⟨ret_int HS.out.symm, HB1.out⟩
      · have hn1' : ¬ (n : Int) < 1 := by omega
        have hn4' : (4 : Int) < (n : Int) := by omega
        clear hn2
        go_wp2
        go_ret
        exact ⟨ret_int HS.out.symm, HB1.out⟩
    have hn1' : ¬ (n : Int) < 1 := by omega
    have hn4' : ¬ (4 : Int) < (n : Int) := by omega
    have HN2 := hide (show ¬ ((pmS ms).length < 1 ∨ 4 < (pmS ms).length) by rw [hpl, hl]; exact hn2)
    clear hn2
    go_wp2
    go_loopw [5] (fun i wr => ∃ m : Nat, m ≤ n ∧ i = .int .i64 m ∧ (∀ j, j < m → mdoP ((pmS ms).getD j zP) = 0) ∧ Below w.heap.size w wr) (fun i _ => n - (intOf i).toNat)
    case atStart => exact ⟨0, Nat.zero_le _, rfl, fun j hj => absurd hj (by omega), HB1.out⟩
    case round =>
      obtain ⟨m, hm, rfl, hv, B⟩ := hrel
      by_cases hlt : m < n
      · have hlt' : (m : Int) < (n : Int) := by omega
        have H := HH.out.below B
        obtain ⟨b, off, rfl, q0, q1, q2, q3, q4, q5, q6, q7⟩ := H.s.at m hlt
        have HOK := hide (Md.okS (H.d m hlt))
        rw [← pmS_at (by omega)] at HOK
        have HV := hide hv
        have HB := hide B
        obtain ⟨V, hV⟩ : ∃ V, V = mdoP ((pmS ms).getD m zP) := ⟨_, rfl⟩
        rw [← hV] at HOK
        have HVV := hide hV
        generalize ms.getD m zMd = M at *
        clear hv B H hV
        go_wp2_with fail
        refine HOK.out.mono ?_
        rintro e w2 ⟨rfl, hb2⟩
        have HB2 := hide (HB.out.trans (hb2.mono HB.out.size))
        clear hb2 HOK HB q0 q1 q2 q3 q4 q5 q6 q7
        by_cases hz : V = 0
        · subst hz
          have HV2 := hide (show ∀ j, j < m + 1 → mdoP ((pmS ms).getD j zP) = 0 from fun j hj => by
            by_cases e : j = m
            · subst e; exact HVV.out.symm
            · exact HV.out j (by omega))
          go_wp2
          go_roundw
          case rel => exact ⟨m + 1, by omega, by go_num, HV2.out, HB2.out⟩
          case measure => simp [intOf]; omega
        · have hz' : (V != 0) = true := by simp [hz]
          have HS := hide (snd4_3 (ps := pmS ms) hcf HN2.out m (by omega) (by rw [← HVV.out]; exact hz))
          go_wp2
          go_ret
          exact ⟨ret_int HS.out.symm, HB2.out⟩
      · have hlt' : ¬ (m : Int) < (n : Int) := by omega
        have HV := hide (show vlds (pmS ms) from fun i hi => hv i (by omega))
        have HB := hide B
        clear hv B
        go_wp2
        go_loopw [6] (fun i wr => ∃ m : Nat, m ≤ n ∧ i = .int .i64 m ∧ (∀ i, i < m → ∀ k, k < i → ((pmS ms).getD k zP).nm ≠ ((pmS ms).getD i zP).nm) ∧ Below w.heap.size w wr) (fun i _ => n - (intOf i).toNat)
        case atStart => exact ⟨0, Nat.zero_le _, rfl, fun j hj => absurd hj (by omega), HB.out⟩
        case round =>
          obtain ⟨p, hp, rfl, hv, B⟩ := hrel
          by_cases hlt2 : p < n
          · have hlt2' : (p : Int) < (n : Int) := by omega
            have HP := hide hv
            have HB3 := hide B
            clear hv B
            go_wp2
            go_loopw [7] (fun i wr => ∃ q : Nat, q ≤ p ∧ i = .int .i64 q ∧ (∀ k, k < q → ((pmS ms).getD k zP).nm ≠ ((pmS ms).getD p zP).nm) ∧ Below w.heap.size w wr) (fun i _ => p - (intOf i).toNat)
            case atStart => exact ⟨0, Nat.zero_le _, rfl, fun j hj => absurd hj (by omega), HB3.out⟩
            case round =>
              obtain ⟨q, hq, rfl, hv, B⟩ := hrel
              by_cases hlt3 : q < p
              · have hlt3' : (q : Int) < (p : Int) := by omega
                have hqn : (q : Int) < (n : Int) := by omega
                have H := HH.out.below B
                obtain ⟨b, off, rfl, q0, _⟩ := H.s.at q (by omega)
                obtain ⟨b', off', e', r0, _⟩ := H.s.at p hlt2
                simp at e'
                obtain ⟨rfl, rfl⟩ := e'
                have e1 : ((pmS ms).getD q zP).nm = (ms.getD q zMd).nm := by rw [pmS_at (by omega)]; rfl
                have e2 : ((pmS ms).getD p zP).nm = (ms.getD p zMd).nm := by rw [pmS_at (by omega)]; rfl
                have HQ := hide hv
                have HB4 := hide B
                by_cases hnm : (ms.getD q zMd).nm = (ms.getD p zMd).nm
                · have HS := hide (snd4_4 (ps := pmS ms) hcf HN2.out HV.out p q (by omega) hlt3 (by rw [e1, e2]; exact hnm))
                  rw [hnm] at q0
                  have heq : ((ms.getD p zMd).nm.toList == (ms.getD p zMd).nm.toList) = true := by simp
                  generalize ms.getD p zMd = M at *
                  clear hv B H e1 e2 hnm
                  go_wp2_with fail
                  go_quiet (fail)
                  go_wp2
                  go_ret
                  exact ⟨ret_int HS.out.symm, below_dN HB4.out nq⟩
                · have hne := str_ne hnm
                  have HQ2 := hide (show ∀ k, k < q + 1 → ((pmS ms).getD k zP).nm ≠ ((pmS ms).getD p zP).nm from fun k hk => by
                    by_cases e : k = q
                    · subst e; rw [e1, e2]; exact hnm
                    · exact HQ.out k (by omega))
                  generalize (ms.getD p zMd).nm = N1 at *
                  generalize (ms.getD q zMd).nm = N2 at *
                  clear hv B H e1 e2 hnm
                  go_wp2_with fail
                  go_quiet (fail)
                  go_wp2
                  go_roundw
                  case rel => exact ⟨q + 1, by omega, by go_num, HQ2.out, below_dN HB4.out nq⟩
                  case measure => simp [intOf]; omega
              · have hlt3' : ¬ (q : Int) < (p : Int) := by omega
                have HQ2 := hide (show ∀ i, i < p + 1 → ∀ k, k < i → ((pmS ms).getD k zP).nm ≠ ((pmS ms).getD i zP).nm from fun i hi k hk => by
                  by_cases e : i = p
                  · subst e; exact hv k (by omega)
                  · exact HP.out i (by omega) k hk)
                have HB4 := hide B
                clear hv B
                go_wp2
                go_roundw
                case rel => exact ⟨p + 1, by omega, by go_num, HQ2.out, HB4.out⟩
                case measure => simp [intOf]; omega
          · have hlt2' : ¬ (p : Int) < (n : Int) := by omega
            have HS := hide (snd4_0 (ps := pmS ms) hcf HN2.out HV.out (fun i hi k hk => hv i (by omega) k hk))
            have HB3 := hide B
            clear hv B
            go_wp2
            go_ret
            exact ⟨ret_int HS.out.symm, HB3.out⟩
end Go.Proofs.YtngdgogjlpjjpaeGreat

namespace Go.Proofs.YtngdgogjlpjjpaeGreat
open Go.RowKit
set_option linter.unusedVariables false
set_option linter.unusedSimpArgs false
set_option maxRecDepth 100000

theorem turn_set (w : World) (g i : Nat) (v : Value) : Turn (fun j => j = g) w (w.setCell ⟨g, i, none⟩ v) := ⟨rfl, rfl, rfl, by rw [size_setCell]; exact Nat.le_refl _, fun k _ hk => heap_setCell_other _ _ _ _ hk⟩
/-- A ROW OF THE CALL'S OWN, elements of sz cells. -/
def OG {α : Type} (t : TypeId) (sz : Nat) (f : α → List Value) (w : World) (base : Nat) (v : Value) (xs : List α) : Prop := w.ownsRow base t sz v xs.length (xs.flatMap f)
theorem OG.below {α : Type} {t : TypeId} {sz : Nat} {f : α → List Value} {w w' : World} {base : Nat} {v : Value} {xs : List α} (h : OG t sz f w base v xs) (hb : Below w.heap.size w w') : OG t sz f w' base v xs := by
  obtain ⟨hl, h0 | ⟨g, cap, cur, hv, hg, hh, h1, h2, h3, h4⟩⟩ := h
  · exact ⟨hl, .inl h0⟩
  · exact ⟨hl, .inr ⟨g, cap, cur, hv, hg, Blk.below (w := w) hh hb, h1, h2, h3, h4⟩⟩
theorem OG.mono {α : Type} {t : TypeId} {sz : Nat} {f : α → List Value} {w : World} {base base' : Nat} {v : Value} {xs : List α} (h : OG t sz f w base v xs) (hb : base' ≤ base) : OG t sz f w base' v xs := by
  obtain ⟨hl, h0 | ⟨g, cap, cur, hv, hg, hh, h1, h2, h3, h4⟩⟩ := h
  · exact ⟨hl, .inl h0⟩
  · exact ⟨hl, .inr ⟨g, cap, cur, hv, by omega, hh, h1, h2, h3, h4⟩⟩
theorem OG.turn {α : Type} {t : TypeId} {sz : Nat} {f : α → List Value} {S : Nat → Prop} {w w' : World} {base : Nat} {v : Value} {xs : List α} (h : OG t sz f w base v xs) (ht : Turn S w w') (hS : ∀ k, S k → ¬ base ≤ k) : OG t sz f w' base v xs := by
  obtain ⟨hl, h0 | ⟨g, cap, cur, hv, hg, hh, h1, h2, h3, h4⟩⟩ := h
  · exact ⟨hl, .inl h0⟩
  · exact ⟨hl, .inr ⟨g, cap, cur, hv, hg, turn_blk (w := w) ht hh (fun s => hS g s hg), h1, h2, h3, h4⟩⟩
theorem OG.lt {α : Type} {t : TypeId} {sz : Nat} {f : α → List Value} {w : World} {base : Nat} {v : Value} {xs : List α} (h : OG t sz f w base v xs) : ∀ k, v.ownBlock = some k → base ≤ k ∧ k < w.heap.size := World.ownsRow.lt h
theorem og_nil {α : Type} (t : TypeId) (sz : Nat) (f : α → List Value) (w : World) (base : Nat) : OG t sz f w base (.slice none 0 0) [] := ⟨by simp, .inl ⟨rfl, rfl⟩⟩
theorem og_shape {α : Type} {t : TypeId} {sz : Nat} {f : α → List Value} {w : World} {base : Nat} {v : Value} {xs : List α} (h : OG t sz f w base v xs) : ∃ a c, v = .slice a xs.length c := by
  obtain ⟨hl, ⟨h0, h1⟩ | ⟨g, cap, cur, hv, _⟩⟩ := h
  · exact ⟨none, 0, by rw [h0, h1]⟩
  · exact ⟨_, _, hv⟩
theorem turn_grown {S : Nat → Prop} {w W W' : World} {row : Option Nat} (h : Turn S w W) (hg : W.grownBy W' row) (hr : ∀ k, row = some k → w.heap.size ≤ k) : Turn S w W' :=
  ⟨hg.os.trans h.os, hg.tape.trans h.tape, hg.output.trans h.output, Nat.le_trans h.size hg.size, fun k hk hs => (hg.block k (Nat.lt_of_lt_of_le hk h.size) (fun e => by have := hr k e.symm; omega)).trans (h.block k hk hs)⟩
theorem cells_new (w : World) (cs : Array Value) (t : TypeId) (xs : List Value) (h : cs = xs.toArray) : ∀ j u, xs[j]? = some u → (w.alloc (.cells cs t)).cell? ((⟨w.heap.size, 0, none⟩ : Addr).add j) = some u := by
  intro j u hj
  subst h
  rw [addr_add, Nat.zero_add, Blk.cell (Blk.new w _ _)]
  simpa using hj

def clI (x : Int) : List Value := [.int .i64 x]

def clT (x : ByteArray) : List Value := [.string x]

def clX (x : Ex) : List Value := [.string x.1, .int .i64 x.2.1, .int .i64 x.2.2]

theorem turn_new' {S : Nat → Prop} {w W : World} (h : Turn S w W) {k : Nat} (hk : w.heap.size ≤ k) (i : Nat) (v : Value) : Turn S w (W.setCell ⟨k, i, none⟩ v) :=
  ⟨h.os, h.tape, h.output, by rw [size_setCell]; exact h.size, fun j hj hs => by rw [heap_setCell_other _ _ _ _ (by show j ≠ k; omega)]; exact h.block j hj hs⟩

/-- rows of rows of the call's own -/
structure OBk (w : World) (base : Nat) (v : Value) (bl : List Bk) : Prop where
  head : w.ownsRow base 24 1 v bl.length (bl.map fun B => Value.slice B.1 B.2.1 B.2.2.1)
  rows : ∀ B ∈ bl, B.2.1 = B.2.2.2.length ∧ OG 3 1 clI w base (.slice B.1 B.2.1 B.2.2.1) B.2.2.2
  apart : bl.Pairwise fun A B => ∀ k, (Value.slice A.1 A.2.1 A.2.2.1).ownBlock = some k → (Value.slice B.1 B.2.1 B.2.2.1).ownBlock ≠ some k
theorem own_kind {w : World} {base n sz : Nat} {t : TypeId} {v : Value} {xs : List Value} {k : Nat} (h : w.ownsRow base t sz v n xs) (hk : v.ownBlock = some k) : ∃ cur, Blk w k cur t := by
  obtain ⟨hl, ⟨h0, _⟩ | ⟨g, cap, cur, hv, _, hh, _⟩⟩ := h
  · subst h0; simp [Value.ownBlock] at hk
  · subst hv
    simp [Value.ownBlock] at hk
    subst hk
    exact ⟨cur, hh⟩
theorem blk_kind {w : World} {k : Nat} {cs cs' : Array Value} {t t' : TypeId} (h : Blk w k cs t) (h' : Blk w k cs' t') : t = t' := by
  unfold Blk at h h'
  rw [h] at h'
  simp at h'
  exact h'.2
theorem OG.grown {α : Type} {t : TypeId} {sz : Nat} {f : α → List Value} {w w' : World} {base : Nat} {v : Value} {xs : List α} {row : Option Nat} (h : OG t sz f w base v xs) (hg : w.grownBy w' row) (hk : v.ownBlock = none ∨ v.ownBlock ≠ row) : OG t sz f w' base v xs := World.ownsRow.kept h hg hk
theorem OBk.turn {S : Nat → Prop} {w w' : World} {base : Nat} {v : Value} {bl : List Bk} (h : OBk w base v bl) (ht : Turn S w w') (hS : ∀ k, S k → ¬ base ≤ k) : OBk w' base v bl := by
  refine ⟨?_, fun B hB => ⟨(h.rows B hB).1, (h.rows B hB).2.turn ht hS⟩, h.apart⟩
  obtain ⟨hl, h0 | ⟨g, cap, cur, hv, hg, hh, h1, h2, h3, h4⟩⟩ := h.head
  · exact ⟨hl, .inl h0⟩
  · exact ⟨hl, .inr ⟨g, cap, cur, hv, hg, turn_blk (w := w) ht hh (fun s => hS g s hg), h1, h2, h3, h4⟩⟩
theorem OBk.lt {w : World} {base : Nat} {v : Value} {bl : List Bk} (h : OBk w base v bl) : ∀ k, v.ownBlock = some k → base ≤ k ∧ k < w.heap.size := h.head.lt
theorem obk_nil (w : World) (base : Nat) : OBk w base (.slice none 0 0) [] := ⟨⟨by simp, .inl ⟨rfl, rfl⟩⟩, by simp, by simp⟩
theorem obk_shape {w : World} {base : Nat} {v : Value} {bl : List Bk} (h : OBk w base v bl) : ∃ a c, v = .slice a bl.length c := by
  obtain ⟨hl, ⟨h0, h1⟩ | ⟨g, cap, cur, hv, _⟩⟩ := h.head
  · exact ⟨none, 0, by rw [h0, h1]⟩
  · exact ⟨_, _, hv⟩
/-- one more row behind the others -/
theorem OBk.push {W W' : World} {base lo : Nat} {a : Option Addr} {k c : Nat} {bl : List Bk} {v' : Value} {A : Option Addr} {C : Nat} {x : List Int} (h : OBk W base (.slice a k c) bl) (hl : bl.length = k) (hx : OG 3 1 clI W lo (.slice A x.length C) x) (hb : base ≤ lo) (hlo : ∀ B ∈ bl, ∀ j, (Value.slice B.1 B.2.1 B.2.2.1).ownBlock = some j → j < lo)
    (hown : W'.ownsRow base 24 1 v' (k + 1) (bl.map (fun B => Value.slice B.1 B.2.1 B.2.2.1) ++ [.slice A x.length C])) (hg : W.grownBy W' (Value.slice a k c).ownBlock) : OBk W' base v' (bl ++ [(A, x.length, C, x)]) := by
  have hne : ∀ (v : Value) (xs : List Int) (lo : Nat), OG 3 1 clI W lo v xs → v.ownBlock = none ∨ v.ownBlock ≠ (Value.slice a k c).ownBlock := fun v xs lo ho => by
    cases e : v.ownBlock with
    | none => exact .inl rfl
    | some j =>
      refine .inr (fun e' => ?_)
      obtain ⟨c1, k1⟩ := own_kind ho e
      obtain ⟨c2, k2⟩ := own_kind h.head e'.symm
      exact absurd (blk_kind k1 k2) (by decide)
  refine ⟨?_, ?_, ?_⟩
  · rw [List.length_append, hl, List.map_append]
    exact hown
  · intro B hB
    rcases List.mem_append.1 hB with hB | hB
    · exact ⟨(h.rows B hB).1, (h.rows B hB).2.grown hg (hne _ _ _ (h.rows B hB).2)⟩
    · simp at hB
      subst hB
      exact ⟨rfl, (hx.grown hg (hne _ _ _ hx)).mono hb⟩
  · rw [List.pairwise_append]
    refine ⟨h.apart, by simp, fun B hB X hX j hj e => ?_⟩
    simp at hX
    subst hX
    have h1 := hlo B hB j hj
    have h2 := (hx.lt j e).1
    omega
theorem OBk.mono {w : World} {base base' : Nat} {v : Value} {bl : List Bk} (h : OBk w base v bl) (hb : base' ≤ base) : OBk w base' v bl := by
  refine ⟨?_, fun B hB => ⟨(h.rows B hB).1, (h.rows B hB).2.mono hb⟩, h.apart⟩
  obtain ⟨hl, h0 | ⟨g, cap, cur, hv, hg, hh, h1, h2, h3, h4⟩⟩ := h.head
  · exact ⟨hl, .inl h0⟩
  · exact ⟨hl, .inr ⟨g, cap, cur, hv, by omega, hh, h1, h2, h3, h4⟩⟩
theorem flat_one {α : Type} (f : α → Value) : ∀ xs : List α, xs.flatMap (fun x => [f x]) = xs.map f
  | [] => rfl
  | x :: xs => by rw [List.flatMap_cons, flat_one f xs]; rfl
theorem flat_clI (xs : List Int) : xs.flatMap clI = xs.map (Value.int .i64) := flat_one _ xs
theorem flat_clT (xs : List ByteArray) : xs.flatMap clT = xs.map Value.string := flat_one _ xs
theorem flat_clX : ∀ (xs : List Ex) (i : Nat), i < xs.length → (xs.flatMap clX)[i * 3]? = some (.string (xs.getD i zE).1) ∧ (xs.flatMap clX)[i * 3 + 1]? = some (.int .i64 (xs.getD i zE).2.1) ∧ (xs.flatMap clX)[i * 3 + 2]? = some (.int .i64 (xs.getD i zE).2.2)
  | [], i, h => by simp at h
  | x :: xs, 0, h => ⟨rfl, rfl, rfl⟩
  | x :: xs, i + 1, h => by
    have ih := flat_clX xs i (by simpa using h)
    have e : ∀ d, ((x :: xs).flatMap clX)[(i + 1) * 3 + d]? = (xs.flatMap clX)[i * 3 + d]? := fun d => by
      rw [List.flatMap_cons, List.getElem?_append_right (by simp [clX]; omega)]
      congr 1
      simp [clX]
      omega
    have e0 := e 0
    simp only [Nat.add_zero] at e0
    refine ⟨e0.trans ih.1, (e 1).trans ih.2.1, (e 2).trans ih.2.2⟩
theorem og_parts {α : Type} {t : TypeId} {sz : Nat} {f : α → List Value} {w : World} {base n c : Nat} {a : Option Addr} {xs : List α} (h : OG t sz f w base (.slice a n c) xs) : xs.length = n ∧ n ≤ maxLen ∧ n ≤ c ∧ (n ≠ 0 → ∃ g, a = some ⟨g, 0, none⟩ ∧ ∀ j u, (xs.flatMap f)[j]? = some u → w.cell? ⟨g, j, none⟩ = some u) := by
  have hc := fun g hg => World.ownsRow.cells h (g := g) hg
  obtain ⟨hl, ⟨h0, h1⟩ | ⟨g, cap, cur, hv, hg, hh, h1, h2, h3, h4⟩⟩ := h
  · simp at h0
    obtain ⟨rfl, rfl, rfl⟩ := h0
    exact ⟨h1, Nat.zero_le _, Nat.le_refl _, fun hn => absurd rfl hn⟩
  · simp at hv
    obtain ⟨rfl, rfl, rfl⟩ := hv
    refine ⟨rfl, by omega, h1, fun hn => ⟨g, rfl, fun j u hj => ?_⟩⟩
    have := hc g rfl j u hj
    rwa [addr_add, Nat.zero_add] at this
theorem og_is {w : World} {base n c : Nat} {a : Option Addr} {xs : List Int} (h : OG 3 1 clI w base (.slice a n c) xs) (hx : ∀ z ∈ xs, wfi z) : IS w a n c xs := by
  obtain ⟨h1, h2, h3, h4⟩ := og_parts h
  refine ⟨h1, h2, hx, fun hn => ?_, h3⟩
  obtain ⟨g, rfl, hc⟩ := h4 hn
  refine ⟨g, 0, rfl, fun i hi => ?_⟩
  rw [Nat.zero_add]
  refine hc i _ ?_
  rw [flat_clI]
  simp [List.getD_eq_getElem?_getD, show i < xs.length by omega]
theorem og_ss {w : World} {base n c : Nat} {a : Option Addr} {xs : List ByteArray} (h : OG 9 1 clT w base (.slice a n c) xs) (hx : ∀ s ∈ xs, s.size ≤ 1048576) : SS w a n c xs := by
  obtain ⟨h1, h2, h3, h4⟩ := og_parts h
  refine ⟨h1, h2, hx, fun hn => ?_, h3⟩
  obtain ⟨g, rfl, hc⟩ := h4 hn
  refine ⟨g, 0, rfl, fun i hi => ?_⟩
  rw [Nat.zero_add]
  refine hc i _ ?_
  rw [flat_clT]
  simp [List.getD_eq_getElem?_getD, show i < xs.length by omega]
theorem og_es {w : World} {base n c : Nat} {a : Option Addr} {xs : List Ex} (h : OG 207 3 clX w base (.slice a n c) xs) (hx : ∀ s ∈ xs, s.1.size ≤ 1048576) : ES w a n c xs := by
  obtain ⟨h1, h2, h3, h4⟩ := og_parts h
  refine ⟨h1, h2, hx, fun hn => ?_, h3⟩
  obtain ⟨g, rfl, hc⟩ := h4 hn
  refine ⟨g, 0, rfl, fun i hi => ?_⟩
  rw [Nat.zero_add]
  obtain ⟨f0, f1, f2⟩ := flat_clX xs i (by omega)
  exact ⟨hc _ _ f0, hc _ _ f1, hc _ _ f2⟩
theorem obk_bks {w : World} {base n c : Nat} {a : Option Addr} {bl : List Bk} (h : OBk w base (.slice a n c) bl) (hx : ∀ B ∈ bl, ∀ z ∈ B.2.2.2, wfi z) : BKS w a n c bl := by
  have hh : OG 24 1 (fun B : Bk => [Value.slice B.1 B.2.1 B.2.2.1]) w base (.slice a n c) bl := by unfold OG; rw [flat_one]; exact h.head
  obtain ⟨h1, h2, h3, h4⟩ := og_parts hh
  refine ⟨h1, h2, fun hn => ?_, fun i hi => ?_, h3⟩
  · obtain ⟨g, rfl, hc⟩ := h4 hn
    refine ⟨g, 0, rfl, fun i hi => ?_⟩
    rw [Nat.zero_add]
    refine hc i _ ?_
    rw [flat_one]
    simp [List.getD_eq_getElem?_getD, show i < bl.length by omega]
  · have hm : bl.getD i zB ∈ bl := by simp [List.getD_eq_getElem?_getD, show i < bl.length by omega]
    obtain ⟨e, o⟩ := h.rows _ hm
    exact og_is o (hx _ hm)
/-- a row stays where its block is left alone -/
theorem OG.kept {α : Type} {t : TypeId} {sz : Nat} {f : α → List Value} {S : Nat → Prop} {w w' : World} {base : Nat} {v : Value} {xs : List α} (h : OG t sz f w base v xs) (ht : Turn S w w') (hk : ∀ k, v.ownBlock = some k → ¬ S k) : OG t sz f w' base v xs := by
  obtain ⟨hl, h0 | ⟨g, cap, cur, hv, hg, hh, h1, h2, h3, h4⟩⟩ := h
  · exact ⟨hl, .inl h0⟩
  · exact ⟨hl, .inr ⟨g, cap, cur, hv, hg, turn_blk (w := w) ht hh (hk g (by rw [hv]; rfl)), h1, h2, h3, h4⟩⟩
theorem og_addr {α : Type} {t : TypeId} {sz : Nat} {f : α → List Value} {w : World} {base n c : Nat} {a : Option Addr} {xs : List α} (h : OG t sz f w base (.slice a n c) xs) (hn : n ≠ 0) : ∃ g, a = some ⟨g, 0, none⟩ := by
  obtain ⟨_, _, _, h4⟩ := og_parts h
  obtain ⟨g, hg, _⟩ := h4 hn
  exact ⟨g, hg⟩
end Go.Proofs.YtngdgogjlpjjpaeGreat
