import Derived.Test.YtngdgogjlpjjpadGreatJ00
import Derived.Test.YtngdgogjlpjjpadGreatJ22
import Derived.Test.YtngdgogjlpjjpadGreatJ26
namespace Go.Proofs.YtngdgogjlpjjpadGreat
open Go.RowKit
set_option linter.unusedVariables false

/-- WHAT A VALID CONFIGURATION IS. -/
def cfo (s w k d : Int) : Bool := decide (0 ≤ s ∧ s ≤ 4 ∧ 1 ≤ w ∧ w ≤ 64 ∧ 0 ≤ k ∧ k ≤ 1024 ∧ k % 32 = 0 ∧ 0 ≤ d ∧ d ≤ 100)

set_option maxHeartbeats 400000 in
theorem grained_any (x : Int) (w : World) :
    Calls Tryz.prog 62 #[.int .i64 x] w fun e w' => e = .returned (.bool (decide (0 ≤ x ∧ x % 32 = 0))) ∧ w = w' := by
  go_enter Tryz.func62, Tryz.ntmps62
  go_wp2
  all_goals
    go_ret
    refine ⟨ret_bool ?_, rfl⟩
    rw [Bool.eq_iff_iff]
    simp
    try omega
set_option maxHeartbeats 400000 in
theorem upTo_any (v m : Int) (w : World) :
    Calls Tryz.prog 63 #[.int .i64 v, .int .i64 m] w fun e w' => e = .returned (.bool (decide (0 ≤ v ∧ v ≤ m))) ∧ w = w' := by
  go_enter Tryz.func63, Tryz.ntmps63
  go_wp2
  all_goals
    go_ret
    refine ⟨ret_bool ?_, rfl⟩
    rw [Bool.eq_iff_iff]
    simp
    try omega

set_option maxHeartbeats 1000000 in
theorem sConfigOk_any (s c k d : Int) (w : World) :
    Calls Tryz.prog 11 #[.agg #[.int .i64 s, .int .i64 c, .int .i64 k, .int .i64 d]] w fun e w' => e = .returned (.bool (cfo s c k d)) ∧ Below w.heap.size w w' := by
  have HB := hide ((Below.refl w.heap.size w).alloc (Nat.le_refl _) (.cells #[.int .i64 s, .int .i64 c, .int .i64 k, .int .i64 d] 25))
  go_enter Tryz.func11, Tryz.ntmps11
  go_wp2
  all_goals
    go_ret
    refine ⟨ret_bool ?_, HB.out⟩
    unfold cfo
    rw [Bool.eq_iff_iff]
    simp
    try omega

set_option maxHeartbeats 1000000 in
theorem iConfigOk_any (s c k d : Int) (w : World) :
    Calls Tryz.prog 10 #[.agg #[.int .i64 s, .int .i64 c, .int .i64 k, .int .i64 d]] w fun e w' => e = .returned (.bool (cfo s c k d)) ∧ Below w.heap.size w w' := by
  have HB := hide ((Below.refl w.heap.size w).alloc (Nat.le_refl _) (.cells #[.int .i64 s, .int .i64 c, .int .i64 k, .int .i64 d] 25))
  have HF : ∀ b : Bool, b = cfo s c k d ↔ (b = true ↔ (0 ≤ s ∧ s ≤ 4 ∧ 1 ≤ c ∧ c ≤ 64 ∧ 0 ≤ k ∧ k ≤ 1024 ∧ k % 32 = 0 ∧ 0 ≤ d ∧ d ≤ 100)) := fun b => by unfold cfo; rw [Bool.eq_iff_iff]; simp
  have HF := hide HF
  go_enter Tryz.func10, Tryz.ntmps10
  go_wp2_with (first
    | (go_at_call 62; refine (grained_any _ _).mono ?_; rintro e w1 ⟨rfl, rfl⟩)
    | (go_at_call 63; refine (upTo_any _ _ _).mono ?_; rintro e w1 ⟨rfl, rfl⟩))
  all_goals
    go_ret
    refine ⟨ret_bool ?_, HB.out⟩
    rw [HF.out]
    simp_all
    try omega

set_option maxHeartbeats 1000000 in
theorem toConfig_any (s c k d : Int) (w : World) :
    Calls Tryz.prog 44 #[.agg #[.int .i64 s, .int .i64 c, .int .i64 k, .int .i64 d]] w fun e w' => e = .returned (.agg #[.int .i64 s, .int .i64 c, .int .i64 k, .int .i64 d]) ∧ Below w.heap.size w w' := by
  go_enter Tryz.func44, Tryz.ntmps44
  go_wp2
  refine bodyPost_ret (v := .agg #[.int .i64 s, .int .i64 c, .int .i64 k, .int .i64 d]) (by simp [results, Tryz.results44, go_sem]) rfl ⟨rfl, ?_⟩
  exact ((((Below.refl _ _).alloc (Nat.le_refl _) _).alloc (by simp) _).alloc (by simp; omega) _)
end Go.Proofs.YtngdgogjlpjjpadGreat

namespace Go.Proofs.YtngdgogjlpjjpadGreat
open Go.RowKit
set_option linter.unusedVariables false
set_option linter.unusedSimpArgs false
set_option maxRecDepth 100000

/-- WHAT A MODULE HOLDS -/
def Md.pm (m : Md) : PMod := ⟨m.nm, m.tz, m.bl.map (fun B => B.2.2.2), m.dz, m.bss, m.rz, m.ss, m.es⟩
def zP : PMod := ⟨⟨#[]⟩, [], [], [], 0, [], [], []⟩
/-- a module with these things, wherever -/
def dm (P : PMod) : Md := ⟨P.nm, none, P.tz.length, P.tz.length, P.tz, none, P.bl.length, P.bl.length, bkOf P.bl, none, P.dz.length, P.dz.length, P.dz, P.bss, none, P.rz.length, P.rz.length, P.rz, none, P.ss.length, P.ss.length, P.ss, none, P.es.length, P.es.length, P.es⟩
def Md.md (m : Md) (w : World) : Prop := MD w m.nm m.ta m.tn m.tc m.tz m.ba m.bn m.bc m.bl m.da m.dn m.dc m.dz m.bss m.ra m.rn m.rc m.rz m.ia m.im m.ic m.ss m.ea m.en m.ec m.es
theorem md_mdo {m : Md} {w : World} (h : m.md w) : mdo m.nm m.tn m.tz m.bn m.bl m.dn m.bss m.rn m.rz m.im m.ss m.en m.es = mdoP m.pm := by
  have hb := h.b.1
  have e : m.pm.bl.length = m.bn := by simp [Md.pm, hb]
  unfold mdoP
  rw [show m.pm.tz.length = m.tn from h.t.1, show m.pm.dz.length = m.dn from h.d.1, show m.pm.rz.length = m.rn from h.r.1, show m.pm.ss.length = m.im from h.i.1, show m.pm.es.length = m.en from h.e.1, e, ← hb]
  refine mdo_bks (by rw [hb]; simp [bkOf, e]) (fun i hi => ?_)
  have hr := (h.b.2.2.2.1 i (by omega)).1
  have e2 : (bkOf m.pm.bl).getD i zB = (none, (m.bl.getD i zB).2.2.2.length, (m.bl.getD i zB).2.2.2.length, (m.bl.getD i zB).2.2.2) := by
    simp [bkOf, Md.pm, List.getD_eq_getElem?_getD, hi]
  rw [e2]
  exact ⟨hr.symm, rfl⟩
/-- A TARGET, found by its name -/
abbrev Tg := Int × Int × Int
def tgOf (ps : List PMod) (s : ByteArray) : Option Tg := (rsT ps.length (ps.map dm) s).map fun x => ((x.1 : Int), ((ps.getD x.1 zP).es.getD x.2 zE).2.1, ((ps.getD x.1 zP).es.getD x.2 zE).2.2)
def tgV : Option Tg → Value
  | some t => .tuple #[.agg #[.int .i64 t.1, .int .i64 t.2.1, .int .i64 t.2.2], .bool true]
  | none => .tuple #[.agg #[.int .i64 0, .int .i64 0, .int .i64 0], .bool false]
theorem getD_map {α β : Type} (f : α → β) (l : List α) (i : Nat) (a : α) (b : β) (h : i < l.length) : (l.map f).getD i b = f (l.getD i a) := by
  simp [List.getD_eq_getElem?_getD, h]
theorem rsv_tg {n : Nat} {ms : List Md} {s : ByteArray} (hl : ms.length = n) (he : ∀ i, i < n → (ms.getD i zMd).es.length = (ms.getD i zMd).en) : rsv n ms s = tgV (tgOf (ms.map Md.pm) s) := by
  have hr : rsT (ms.map Md.pm).length ((ms.map Md.pm).map dm) s = rsT n ms s := by
    rw [List.length_map, hl]
    refine rsT_congr (fun i hi => ?_)
    rw [List.map_map, getD_map _ _ _ zMd _ (by omega)]
    exact ⟨rfl, by rw [← he i hi]; rfl, rfl⟩
  unfold tgOf rsv
  rw [hr]
  cases e : rsT n ms s with
  | none => rfl
  | some x =>
    obtain ⟨i, k⟩ := x
    have hi := rsT_lt e
    have hg : (ms.map Md.pm).getD i zP = (ms.getD i zMd).pm := getD_map _ _ _ zMd _ (by omega)
    simp only [Option.map_some, tgV, hg]
    rfl
def zT : Tg := (0, 0, 0)
abbrev tgOk (ps : List PMod) (P : PMod) : Prop := ∀ i, i < P.ss.length → (tgOf ps (P.ss.getD i zS)).isSome = true
def tgs (ps : List PMod) (P : PMod) : List Tg := (List.range P.ss.length).map fun i => (tgOf ps (P.ss.getD i zS)).getD zT
/-- whole grains -/
def rnd (x : Int) : Int := (x + 31) / 32 * 32
/-- what the first banks take -/
def fsum (P : PMod) : Nat → Int
  | 0 => 0
  | k + 1 => fsum P k + rnd (4 * ((P.bl.getD k []).length : Int))
def tsz (P : PMod) : Int := rnd (4 * (P.tz.length : Int))
def msz (P : PMod) : Int := tsz P + fsum P P.bl.length
def dsz (P : PMod) : Int := rnd ((P.dz.length : Int) + P.bss)
/-- what the first modules take -/
def Fl (ps : List PMod) : Nat → Int
  | 0 => 0
  | i + 1 => Fl ps i + msz (ps.getD i zP)
def Ra (ps : List PMod) : Nat → Int
  | 0 => 0
  | i + 1 => Ra ps i + dsz (ps.getD i zP)
/-- A PLACE -/
structure Pl where
  text : Int
  banks : List Int
  data : Int
  size : Int
def plc (ps : List PMod) (i : Nat) : Pl := ⟨Fl ps i, (List.range (ps.getD i zP).bl.length).map fun k => Fl ps i + tsz (ps.getD i zP) + fsum (ps.getD i zP) k, 65536 + Ra ps i, dsz (ps.getD i zP)⟩
/-- A LAYOUT -/
structure Lay where
  places : List Pl
  stack : Int
  slots : List Int
  flash : Int
  ram : Int
  targets : List (List Tg)
def slt (ps : List PMod) (w k : Int) (i : Nat) : Int := 65536 + Ra ps ps.length + k + (i : Int) * rnd (4 * w)
def lay (ps : List PMod) (s w k : Int) : Lay := ⟨(List.range ps.length).map (plc ps), 65536 + Ra ps ps.length, (List.range s.toNat).map (slt ps w k), Fl ps ps.length, Ra ps ps.length + k + (s.toNat : Int) * rnd (4 * w), (List.range ps.length).map fun i => tgs ps (ps.getD i zP)⟩
/-- the modules are valid; their names differ; their imports are there; their banks are short enough -/
abbrev vlds (ps : List PMod) : Prop := ∀ i, i < ps.length → mdoP (ps.getD i zP) = 0
abbrev nms (ps : List PMod) : Prop := ∀ i, i < ps.length → ∀ k, k < i → (ps.getD k zP).nm ≠ (ps.getD i zP).nm
abbrev imps (ps : List PMod) : Prop := ∀ i, i < ps.length → tgOk ps (ps.getD i zP)
abbrev shrt (ps : List PMod) (w : Int) : Prop := ∀ i, i < ps.length → ∀ k, k < (ps.getD i zP).bl.length → (((ps.getD i zP).bl.getD k []).length : Int) ≤ w
def snd4 (ps : List PMod) (s w k d : Int) : Int :=
  if cfo s w k d = false then 1 else if ps.length < 1 ∨ 4 < ps.length then 2 else if ¬ vlds ps then 3 else if ¬ nms ps then 4 else 0
/-- WHAT Link GIVES -/
def lkc (ps : List PMod) (s w k d : Int) : Int :=
  if snd4 ps s w k d ≠ 0 then snd4 ps s w k d else if ¬ imps ps then 5 else if 0 < s ∧ ¬ shrt ps w then 6 else if 16384 < (lay ps s w k).flash then 7 else if 16384 < (lay ps s w k).ram then 8 else 0
/-- A SLICE OF MODULES whose texts are counted -/
structure MSD (w : World) (a : Option Addr) (n cap : Nat) (ms : List Md) : Prop where
  s : MS w a n cap ms
  d : ∀ i, i < n → (ms.getD i zMd).md w
theorem MSD.below {w w' : World} {a : Option Addr} {n cap : Nat} {ms : List Md} (h : MSD w a n cap ms) (hb : Below w.heap.size w w') : MSD w' a n cap ms := ⟨h.s.below hb, fun i hi => MD.below (h.d i hi) hb⟩
/-- the things of the modules -/
def pmS (ms : List Md) : List PMod := ms.map Md.pm
theorem pmS_len (ms : List Md) : (pmS ms).length = ms.length := by simp [pmS]
theorem pmS_at {ms : List Md} {i : Nat} (h : i < ms.length) : (pmS ms).getD i zP = (ms.getD i zMd).pm := getD_map _ _ _ zMd _ h
end Go.Proofs.YtngdgogjlpjjpadGreat
