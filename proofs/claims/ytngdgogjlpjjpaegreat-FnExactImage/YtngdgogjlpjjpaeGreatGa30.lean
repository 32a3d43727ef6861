import Derived.Test.YtngdgogjlpjjpaeGreatGa26
import Derived.Test.YtngdgogjlpjjpaeGreatGa28
import Derived.Test.YtngdgogjlpjjpaeGreatGa29
namespace Go.Proofs.YtngdgogjlpjjpaeGreat
open Go.RowKit Classical
set_option linter.unusedVariables false
set_option linter.unusedSimpArgs false
set_option maxRecDepth 100000

theorem reb_rows (gs : List Nat) (bl : List Bk) : (reb gs bl).map (fun B => B.2.2.2) = bl.map (fun B => B.2.2.2) := by
  apply List.ext_getElem
  · simp [reb_len]
  · intro i h1 h2
    simp [reb] at h1 ⊢
    simp [h1]
theorem copy_pm {c : Nat} {m m' : Md} {W : World} (h : CopyOf c m m' W) : m'.pm = m.pm := by
  obtain ⟨g1, g2, g3, g5, g6, g7, gs, rfl, _⟩ := h
  simp only [Md.pm, reb_rows]
theorem rowm_pms {W : World} {c n : Nat} {ms ms' : List Md} (h : RowM W c n ms ms') (hl : ms'.length = n) (hl0 : ms.length = n) : pmS ms' = pmS ms := by
  apply List.ext_getElem
  · simp [pmS, hl, hl0]
  · intro i h1 h2
    simp only [pmS, List.length_map] at h1 h2
    have e := copy_pm (h.2.2 i (by omega)).2
    simpa [pmS, List.getD_eq_getElem?_getD, h1, h2] using e
theorem copy_size {c : Nat} {m m' : Md} {W : World} (h : CopyOf c m m' W) (hb : m.bl.length = m.bn) : m'.size = m.size := by
  obtain ⟨g1, g2, g3, g5, g6, g7, gs, rfl, _⟩ := h
  exact reb_size _ _ _ _ _ _ _ _ _ _ _ hb
theorem rowm_msd {W w : World} {c n cap : Nat} {a : Option Addr} {ms ms' : List Md} (h : RowM W c n ms ms') (hl : ms'.length = n) (hm : MS w a n cap ms) (hs : ∀ i, i < n → (ms.getD i zMd).size ≤ 1048576) : MSD W (some ⟨c, 0, none⟩) n n ms' :=
  ⟨h.ms hl hm, fun i hi => md_of_mt (copy_mt (hm.2.2.2.1 i hi) (h.2.2 i (by omega)).2) (by
    have e := copy_size (h.2.2 i (by omega)).2 (hm.2.2.2.1 i hi).b.1
    have := hs i hi
    unfold Md.size at e this
    rw [e]
    exact this)⟩
/-- what the marks of copies write into -/
def Sm (W : World) (c j : Nat) : Prop := c < j ∧ j < W.heap.size ∧ ¬ ∃ cs, Blk W j cs 24
def bnF (m : Md) (j : Nat) : Rw3 := ((m.bl.getD j zB).1, (m.bl.getD j zB).2.1, (m.bl.getD j zB).2.2.1)
theorem SlB.congr {S : Nat → Prop} {w : World} {a : Option Addr} {n : Nat} {f f' : Nat → Rw3} (h : SlB S w a n f) (e : ∀ i, i < n → f' i = f i) : SlB S w a n f' :=
  ⟨fun hn => by obtain ⟨g, o, cs, t, ha, hs, hb, hl⟩ := h.head hn; exact ⟨g, o, cs, t, ha, hs, hb, fun i hi => by rw [e i hi]; exact hl i hi⟩, fun i hi => by rw [e i hi]; exact h.rows i hi⟩
theorem sumB_congr {f f' : Nat → Rw3} : ∀ n, (∀ i, i < n → f' i = f i) → sumB f' n = sumB f n
  | 0, _ => rfl
  | n + 1, e => by show sumB f' n + (f' n).2.1 = sumB f n + (f n).2.1; rw [sumB_congr n (fun i hi => e i (by omega)), e n (by omega)]
theorem sm_of {W : World} {c j : Nat} {cs : Array Value} {t : TypeId} (h1 : c < j) (hb : Blk W j cs t) (hne : t ≠ 24) : Sm W c j := ⟨h1, hb.lt, fun ⟨c2, k2⟩ => hne (blk_kind hb k2)⟩
theorem copy_rws {c : Nat} {m m' : Md} {w W : World} (hm : m.mt w) (h : CopyOf c m m' W) : Rws (Sm W c) W c m' (bnF m') ∧ sumB (bnF m') m'.bn = upS (fun j => (m.bl.getD j zB).2.1) m.bn := by
  obtain ⟨g1, g2, g3, g5, g6, g7, gs, rfl, l1, l2, l3, l4, l5, l6, hg, r1, r2, r3, r5, r6, r7⟩ := h
  have hbl : m.bl.length = m.bn := hm.b.1
  have s1 : Sm W c g1 := sm_of (by omega) (show Blk W g1 _ _ from r1) (by decide)
  have s3 : Sm W c g3 := sm_of (by omega) (show Blk W g3 _ _ from r3) (by decide)
  have s5 : Sm W c g5 := sm_of (by omega) (show Blk W g5 _ _ from r5) (by decide)
  have s6 : Sm W c g6 := sm_of (by omega) (show Blk W g6 _ _ from r6) (by decide)
  have s7 : Sm W c g7 := by obtain ⟨⟨cx, hx, _⟩, _⟩ := r7; exact sm_of (by omega) hx (by decide)
  have s2 : ¬ Sm W c g2 := fun e => by obtain ⟨⟨cur, h2, _⟩, _⟩ := r2; exact e.2.2 ⟨cur, h2⟩
  have sb : ∀ i, i < m.bn → Sm W c (gs.getD i 0) := fun i hi => by
    obtain ⟨q1, q2⟩ := r2.2.1 i (by omega)
    exact sm_of (by omega) (show Blk W (gs.getD i 0) _ _ from q1) (by decide)
  have e : ∀ i, i < m.bn → bnF ⟨m.nm, some ⟨g1, 0, none⟩, m.tn, m.tn, m.tz, some ⟨g2, 0, none⟩, m.bn, m.bn, reb gs m.bl, some ⟨g3, 0, none⟩, m.dn, m.dn, m.dz, m.bss, some ⟨g5, 0, none⟩, m.rn, m.rn, m.rz, some ⟨g6, 0, none⟩, m.im, m.im, m.ss, some ⟨g7, 0, none⟩, m.en, m.en, m.es⟩ i = bankF gs m.bl i := fun i hi => by
    unfold bnF
    rw [reb_at _ _ _ (by omega)]
    rfl
  obtain ⟨t1, t2, t3, t5, t6, t7⟩ := mod_sl hm hg r1 r2 r3 r5 r6 r7 s1 s2 sb s3 s5 s6 s7
  refine ⟨⟨t1, t2.congr e, t3, t5, t6, t7, fun g o hh => ?_⟩, ?_⟩
  · simp at hh; omega
  · rw [sumB_congr _ e, sumB_bank]
theorem rowm_mrs {W w : World} {c n cap : Nat} {a : Option Addr} {ms ms' : List Md} (h : RowM W c n ms ms') (hl : ms'.length = n) (hm : MS w a n cap ms) : Mrs (Sm W c) W c n ms' (fun i => bnF (ms'.getD i zMd)) := by
  obtain ⟨⟨cur, hb, hsz⟩, _, hr⟩ := h
  refine ⟨fun e => by have := e.1; omega, ⟨cur, hb, fun i hi => ?_⟩, fun i hi => (copy_rws (hm.2.2.2.1 i hi) (hr i (by omega)).2).1⟩
  obtain ⟨h0, h1, h2, h3, h4, h5, h6, h7⟩ := (hr i (by omega)).1
  exact ⟨⟨_, (hb.cell _).symm.trans h0⟩, (hb.cell _).symm.trans h1, (hb.cell _).symm.trans h2, (hb.cell _).symm.trans h3, ⟨_, (hb.cell _).symm.trans h4⟩, (hb.cell _).symm.trans h5, (hb.cell _).symm.trans h6, (hb.cell _).symm.trans h7⟩
/-- how many marks copies take -/
theorem rowm_cnt {W w : World} {c n cap : Nat} {a : Option Addr} {ms ms' : List Md} (h : RowM W c n ms ms') (hl : ms'.length = n) (hm : MS w a n cap ms) (hz : n + upS (fun j => (ms.getD j zMd).size) n ≤ 1048576) :
    upS (cntM ms' (fun i => bnF (ms'.getD i zMd))) n ≤ 3145728 ∧ (∀ i, i < n → (ms'.getD i zMd).bn ≤ 1048576) ∧ (∀ i, i < n → cntM ms' (fun i => bnF (ms'.getD i zMd)) i ≤ 4194304 ∧ (ms'.getD i zMd).tn ≤ 1048576 ∧ (ms'.getD i zMd).dn ≤ 1048576 ∧ (ms'.getD i zMd).rn ≤ 1048576 ∧ (ms'.getD i zMd).im ≤ 1048576 ∧ (ms'.getD i zMd).en ≤ 1048576 ∧ sumB (bnF (ms'.getD i zMd)) (ms'.getD i zMd).bn ≤ 1048576) := by
  have key : ∀ i, i < n → cntM ms' (fun i => bnF (ms'.getD i zMd)) i ≤ 2 + 3 * (ms.getD i zMd).size ∧ (ms'.getD i zMd).bn ≤ (ms.getD i zMd).size ∧ (ms'.getD i zMd).tn ≤ (ms.getD i zMd).size ∧ (ms'.getD i zMd).dn ≤ (ms.getD i zMd).size ∧ (ms'.getD i zMd).rn ≤ (ms.getD i zMd).size ∧ (ms'.getD i zMd).im ≤ (ms.getD i zMd).size ∧ (ms'.getD i zMd).en ≤ (ms.getD i zMd).size ∧ sumB (bnF (ms'.getD i zMd)) (ms'.getD i zMd).bn ≤ (ms.getD i zMd).size := fun i hi => by
    have hc := (h.2.2 i (by omega)).2
    have e1 := (copy_rws (hm.2.2.2.1 i hi) hc).2
    have e2 : (ms'.getD i zMd).tn = (ms.getD i zMd).tn ∧ (ms'.getD i zMd).bn = (ms.getD i zMd).bn ∧ (ms'.getD i zMd).dn = (ms.getD i zMd).dn ∧ (ms'.getD i zMd).rn = (ms.getD i zMd).rn ∧ (ms'.getD i zMd).im = (ms.getD i zMd).im ∧ (ms'.getD i zMd).en = (ms.getD i zMd).en := by
      obtain ⟨g1, g2, g3, g5, g6, g7, gs, e, _⟩ := hc
      rw [e]
      exact ⟨rfl, rfl, rfl, rfl, rfl, rfl⟩
    obtain ⟨f1, f2, f3, f4, f5, f6⟩ := e2
    have e3 : (ms.getD i zMd).size = (ms.getD i zMd).nm.size + (ms.getD i zMd).tn + ((ms.getD i zMd).bn + upS (fun j => ((ms.getD i zMd).bl.getD j zB).2.1) (ms.getD i zMd).bn) + (ms.getD i zMd).dn + (ms.getD i zMd).rn + ((ms.getD i zMd).im + upS (fun j => ((ms.getD i zMd).ss.getD j zS).size) (ms.getD i zMd).im) + ((ms.getD i zMd).en + upS (fun j => ((ms.getD i zMd).es.getD j zE).1.size) (ms.getD i zMd).en) := rfl
    unfold cntM
    rw [e1, f1, f2, f3, f4, f5, f6, e3]
    omega
  have hle : ∀ i, i < n → (ms.getD i zMd).size ≤ 1048576 := fun i hi => by have := upS_le (fun j => (ms.getD j zMd).size) n i hi; omega
  refine ⟨?_, fun i hi => by have := key i hi; have := hle i hi; omega, fun i hi => by have := key i hi; have := hle i hi; omega⟩
  have hsum : ∀ q, q ≤ n → upS (cntM ms' (fun i => bnF (ms'.getD i zMd))) q ≤ 2 * q + 3 * upS (fun j => (ms.getD j zMd).size) q := by
    intro q
    induction q with
    | zero => intro _; simp [upS]
    | succ q ih =>
      intro hq
      have h1 := ih (by omega)
      have h2 := (key q (by omega)).1
      show upS _ q + cntM ms' (fun i => bnF (ms'.getD i zMd)) q ≤ 2 * (q + 1) + 3 * (upS _ q + (ms.getD q zMd).size)
      omega
  have := hsum n (Nat.le_refl _)
  omega
theorem LayO.kept {W W' : World} {base : Nat} {L : Lay} {a0 : Option Addr} {c0 : Nat} {xs : List PB} {a2 : Option Addr} {c2 : Nat} {a5 : Option Addr} {c5 : Nat} {ts : List TB} {S : Nat → Prop} (h : LayO W base L a0 c0 xs a2 c2 a5 c5 ts) (t : Turn S W W') (hs : ∀ j, base ≤ j → j < W.heap.size → ¬ S j) : LayO W' base L a0 c0 xs a2 c2 a5 c5 ts where
  p := h.p.kept t (fun k hk => hs k (h.p.lt.1 k hk).1 (h.p.lt.1 k hk).2) (fun x hx k hk => hs k (h.p.lt.2 x hx k hk).1 (h.p.lt.2 x hx k hk).2)
  ps := h.ps
  s := h.s.kept t (fun k hk => hs k (h.s.lt k hk).1 (h.s.lt k hk).2)
  t := h.t.kept t (fun k hk => hs k (h.t.lt.1 k hk).1 (h.t.lt.1 k hk).2) (fun x hx k hk => hs k (h.t.lt.2 x hx k hk).1 (h.t.lt.2 x hx k hk).2)
  tt := h.tt
  sp := h.sp
theorem LayO.below' {W W' : World} {base : Nat} {L : Lay} {a0 : Option Addr} {c0 : Nat} {xs : List PB} {a2 : Option Addr} {c2 : Nat} {a5 : Option Addr} {c5 : Nat} {ts : List TB} (h : LayO W base L a0 c0 xs a2 c2 a5 c5 ts) (hb : Below W.heap.size W W') : LayO W' base L a0 c0 xs a2 c2 a5 c5 ts := h.kept (S := fun _ => False) (turn_below hb) (fun _ _ _ s => s)
theorem LayO.mono {W : World} {base base' : Nat} {L : Lay} {a0 : Option Addr} {c0 : Nat} {xs : List PB} {a2 : Option Addr} {c2 : Nat} {a5 : Option Addr} {c5 : Nat} {ts : List TB} (h : LayO W base L a0 c0 xs a2 c2 a5 c5 ts) (hb : base' ≤ base) : LayO W base' L a0 c0 xs a2 c2 a5 c5 ts := ⟨h.p.mono hb hb, h.ps, h.s.mono hb, h.t.mono hb hb, h.tt, h.sp⟩
end Go.Proofs.YtngdgogjlpjjpaeGreat

namespace Go.Proofs.YtngdgogjlpjjpaeGreat
open Go.RowKit Classical
set_option linter.unusedVariables false
set_option linter.unusedSimpArgs false
set_option maxRecDepth 100000

theorem LayO.lyt {W : World} {base : Nat} {L : Lay} {a0 : Option Addr} {c0 : Nat} {xs : List PB} {a2 : Option Addr} {c2 : Nat} {a5 : Option Addr} {c5 : Nat} {ts : List TB} (h : LayO W base L a0 c0 xs a2 c2 a5 c5 ts) (R : LayR L) (hv : wfi L.stack ∧ wfi L.flash ∧ wfi L.ram) : LyT W L a0 c0 xs a2 c2 a5 c5 ts where
  p := by
    obtain ⟨_, h2, h3, h4⟩ := og_parts h.p.head
    refine ⟨rfl, by omega, fun hn => ?_, fun i hi => ?_, by omega⟩
    · obtain ⟨g, hg, _⟩ := h4 hn
      refine ⟨g, 0, hg, fun i hi => ?_⟩
      obtain ⟨g', hg', q1, q2, q3, q4, _⟩ := opl_at h.p i hi
      rw [hg] at hg'
      simp at hg'
      subst hg'
      simp only [Nat.zero_add]
      exact ⟨q1, q2, q3, q4⟩
    · obtain ⟨_, _, _, _, _, _, o⟩ := opl_at h.p i hi
      exact og_is o (R.p _ (by rw [← h.ps]; exact List.mem_map.2 ⟨xs.getD i zPB, by simp [List.getD_eq_getElem?_getD, hi], rfl⟩))
  ps := h.ps
  s := og_is h.s R.s
  t := by
    obtain ⟨_, h2, h3, h4⟩ := og_parts h.t.head
    refine ⟨rfl, by omega, fun hn => ?_, fun i hi => ?_, by omega⟩
    · obtain ⟨g, hg, _⟩ := h4 hn
      refine ⟨g, 0, hg, fun i hi => ?_⟩
      obtain ⟨g', hg', q1, _⟩ := otg_at h.t i hi
      rw [hg] at hg'
      simp at hg'
      subst hg'
      simp only [Nat.zero_add]
      exact q1
    · obtain ⟨_, _, _, o⟩ := otg_at h.t i hi
      obtain ⟨k1, k2, k3, k4⟩ := og_parts o
      refine ⟨k1, by omega, fun hn => ?_, by omega⟩
      obtain ⟨g, hg, _⟩ := k4 hn
      refine ⟨g, 0, hg, fun j hj => ?_⟩
      obtain ⟨g', hg', u0, u1, u2⟩ := ogG_at o j hj
      rw [hg] at hg'
      simp at hg'
      subst hg'
      simp only [Nat.zero_add]
      exact ⟨u0, u1, u2⟩
  tt := h.tt
  v := hv
theorem lay_v {ps : List PMod} {s w k d : Int} (h : lkc ps s w k d = 0) : wfi (lay ps s w k).stack ∧ wfi (lay ps s w k).flash ∧ wfi (lay ps s w k).ram := by
  obtain ⟨hc, h1, h2, hv, _⟩ := lkc_facts h
  unfold cfo at hc
  simp at hc
  obtain ⟨c1, c2, c3, c4, c5, c6, _⟩ := hc
  have a1 := Ra_range hv ps.length (Nat.le_refl _)
  have a2 := Fl_range hv ps.length (Nat.le_refl _)
  have a4 := rnd_range (x := 4 * w) (by omega)
  have a5 : (0 : Int) ≤ (s.toNat : Int) * rnd (4 * w) := Int.mul_nonneg (by omega) (by omega)
  have a6 : (s.toNat : Int) * rnd (4 * w) ≤ 4 * 287 := Int.mul_le_mul (by omega) (by omega) (by omega) (by omega)
  simp only [lay]
  unfold wfi
  omega
theorem lkL_v (ps : List PMod) (s w k d : Int) : wfi (lkL ps s w k d).stack ∧ wfi (lkL ps s w k d).flash ∧ wfi (lkL ps s w k d).ram := by
  unfold lkL
  by_cases h : lkc ps s w k d = 0
  · rw [if_pos h]; exact lay_v h
  · rw [if_neg h]; unfold L0 wfi; simp
/-- WHETHER SOME CONFIGURATION GIVES THE LAYOUT -/
def Lok (ps : List PMod) (L : Lay) : Prop := lkc ps (L.slots.length : Int) (cfW L) (cfK L) 0 = 0 ∧ lkL ps (L.slots.length : Int) (cfW L) (cfK L) 0 = L
def plE (a b:Pl):Decidable (a=b):=decidable_of_iff (a.text=b.text /\ a.banks=b.banks /\ a.data=b.data /\ a.size=b.size) (by cases a;cases b;simp)
def layE (a b:Lay):Decidable (a=b):=
 have:DecidableEq Pl:=plE
 decidable_of_iff (a.places=b.places /\ a.stack=b.stack /\ a.slots=b.slots /\ a.flash=b.flash /\ a.ram=b.ram /\ a.targets=b.targets) (by cases a;cases b;simp)
def lokD (ps:List PMod)(L:Lay):Decidable (Lok ps L):=@instDecidableAnd _ _ _ (layE _ _)
def lokB (ps:List PMod)(L:Lay):Bool:=@decide _ (lokD ps L)
theorem lokB_iff {ps:List PMod}{L:Lay}:lokB ps L=true ↔ Lok ps L:=⟨@of_decide_eq_true _ (lokD ps L),@decide_eq_true _ (lokD ps L)⟩

set_option maxHeartbeats 4000000 in
theorem layoutOk_any (a : Option Addr) (n cap : Nat) (ms : List Md) (L : Lay) (a0 : Option Addr) (c0 : Nat) (xs : List PB) (a2 : Option Addr) (c2 : Nat) (a5 : Option Addr) (c5 : Nat) (ts : List TB) (w : World) (h : MSD w a n cap ms) (hL : LyT w L a0 c0 xs a2 c2 a5 c5 ts) :
    Calls Tryz.prog 56 #[.slice a n cap, .agg #[.slice a0 xs.length c0, .int .i64 L.stack, .slice a2 L.slots.length c2, .int .i64 L.flash, .int .i64 L.ram, .slice a5 ts.length c5]] w fun e w' => e = .returned (.bool (decide (Lok (pmS ms) L))) ∧ Below w.heap.size w w' := by
  obtain ⟨r, hr⟩ : ∃ r, r = decide (Lok (pmS ms) L) := ⟨_, rfl⟩
  rw [← hr]
  replace hr : r = true ↔ Lok (pmS ms) L := by rw [hr]; simp
  unfold Lok at hr
  have HLB := hide (layB_lk (pmS ms) (L.slots.length : Int) (cfW L) (cfK L) 0)
  have HLV := hide (lkL_v (pmS ms) (L.slots.length : Int) (cfW L) (cfK L) 0)
  have HIM := hide (fun (W : World) (hb : Below w.heap.size w W) => by
    have := iLink_any a n cap ms (L.slots.length : Int) (cfW L) (cfK L) 0 W (h.below hb)
    unfold LkM layV at this
    exact this)
  generalize lkL (pmS ms) (L.slots.length : Int) (cfW L) (cfK L) 0 = LY at *
  generalize lkc (pmS ms) (L.slots.length : Int) (cfW L) (cfK L) 0 = C at *
  have HR := hide hr
  have HCF := hide (fun (W : World) (hb : Below w.heap.size w W) => configOf_any L a0 c0 xs a2 c2 a5 c5 ts W (hL.below hb))
  have B0 : Below w.heap.size w (w.alloc (.cells #[.slice a0 xs.length c0, .int .i64 L.stack, .slice a2 L.slots.length c2, .int .i64 L.flash, .int .i64 L.ram, .slice a5 ts.length c5] 36)) := (Below.refl _ _).alloc (Nat.le_refl _) _
  have k0 := Blk.new w #[.slice a0 xs.length c0, .int .i64 L.stack, .slice a2 L.slots.length c2, .int .i64 L.flash, .int .i64 L.ram, .slice a5 ts.length c5] 36
  have HL := hide hL
  clear h hL hr
  go_enter Tryz.func56, Tryz.ntmps56
  go_wp2_with fail
  refine (HCF.out _ B0).mono ?_
  rintro e w1 ⟨rfl, hb1⟩
  have B1 := B0.trans (hb1.mono B0.size)
  have k1 := k0.below hb1
  clear hb1 B0 k0
  go_wp2_with fail
  refine (HIM.out _ B1).mono ?_
  rintro e w2 ⟨hb2, b0, d0, ys, b2, d2, b5, d5, us, rfl, O2⟩
  have hA : Below w2.heap.size w2 (w2.alloc (.cells #[.slice b0 ys.length d0, .int .i64 LY.stack, .slice b2 LY.slots.length d2, .int .i64 LY.flash, .int .i64 LY.ram, .slice b5 us.length d5] 36)) := (Below.refl _ _).alloc (Nat.le_refl _) _
  have kt := Blk.new w2 #[.slice b0 ys.length d0, .int .i64 LY.stack, .slice b2 LY.slots.length d2, .int .i64 LY.flash, .int .i64 LY.ram, .slice b5 us.length d5] 36
  have B2 := B1.trans (hb2.mono B1.size)
  have B3 := B2.trans (hA.mono B2.size)
  have k3 := (k1.below hb2).below hA
  have O3 := O2.below' hA
  have HSM := hide (sameLayout_any LY b0 d0 ys b2 d2 b5 d5 us L a0 c0 xs a2 c2 a5 c5 ts _ (O3.lyt HLB.out.r HLV.out) (HL.out.below B3))
  have HB3 := hide B3
  obtain ⟨p0, p1, p2, p3, p4, p5⟩ := k3.ly6
  obtain ⟨q0, q1, q2, q3, q4, q5⟩ := kt.ly6
  clear hb2 O2 O3 hA B1 B2 B3 k1 k3 kt
  by_cases hC : C = 0
  · have g : (C == 0) = true := by simpa using hC
    have HV := hide (show decide (LY = L) = r by rw [Bool.eq_iff_iff, HR.out]; simp [hC])
    rw [HV.out] at HSM
    clear hC HR
    go_wp2_with fail
    refine HSM.out.mono ?_
    rintro e w4 ⟨rfl, hb4⟩
    have HB4 := hide (HB3.out.trans (hb4.mono HB3.out.size))
    clear hb4
    cases r
    all_goals
      go_wp2
      go_ret
      exact ⟨rfl, HB4.out⟩
  · have g : (C == 0) = false := by simpa using hC
    have HV := hide (show r = false by cases r; rfl; exact absurd (HR.out.1 rfl).1 hC)
    clear hC HR
    go_wp2
    go_ret
    exact ⟨ret_bool HV.out.symm, HB3.out⟩
end Go.Proofs.YtngdgogjlpjjpaeGreat

namespace Go.Proofs.YtngdgogjlpjjpaeGreat
open Go.RowKit Classical
set_option linter.unusedVariables false
set_option linter.unusedSimpArgs false
set_option maxRecDepth 100000

theorem cutY {S F : Nat → Nat → Option Addr → Nat → List PB → Option Addr → Nat → Option Addr → Nat → List TB → World → Prop} {G : Prop} (main : (∀ gm gb a0 c0 xs a2 c2 a5 c5 ts W, F gm gb a0 c0 xs a2 c2 a5 c5 ts W → S gm gb a0 c0 xs a2 c2 a5 c5 ts W) → G) (pf : ∀ gm gb a0 c0 xs a2 c2 a5 c5 ts W, F gm gb a0 c0 xs a2 c2 a5 c5 ts W → S gm gb a0 c0 xs a2 c2 a5 c5 ts W) : G := main pf

/-- IN A REGION OF MANY ORDERS: what has grown since W0, and the box (if it has been made) with its zeros -/
def Zb (zc : Array Value) (t : TypeId) (W0 X : World) (o : Option Nat) : Prop := Below W0.heap.size W0 X ∧ ∀ g, o = some g → W0.heap.size ≤ g ∧ Blk X g zc t
section
variable {zc : Array Value} {t : TypeId} {W0 X Y : World} {o : Option Nat}
theorem zb_new (zc : Array Value) (t : TypeId) (W0 : World) : Zb zc t W0 W0 none := ⟨Below.refl _ _, fun g e => by cases e⟩
theorem Zb.below (h : Zb zc t W0 X o) (hb : Below X.heap.size X Y) : Zb zc t W0 Y o := ⟨h.1.trans (hb.mono h.1.size), fun g e => ⟨(h.2 g e).1, (h.2 g e).2.below hb⟩⟩
theorem Zb.drew (h : Zb zc t W0 X o) : Zb zc t W0 X.drew o := ⟨h.1.drew, fun g e => ⟨(h.2 g e).1, (h.2 g e).2⟩⟩
theorem Zb.box (h : Zb zc t W0 X none) : Zb zc t W0 (X.alloc (.cells zc t)) (some X.heap.size) := ⟨h.1.alloc h.1.size _, fun g e => by cases e; exact ⟨h.1.size, Blk.new X zc t⟩⟩
end
/-- .. and a row of copies -/
structure Z2 (zc : Array Value) (t : TypeId) (n : Nat) (ms : List Md) (W0 X : World) (o : Option Nat) (g : Nat) (m : List Md) : Prop where
  z : Zb zc t W0 X o
  r : RowM X g n ms m
  l : m.length = n
section
variable {zc : Array Value} {t : TypeId} {n g : Nat} {ms m : List Md} {W0 X Y : World} {o : Option Nat}
theorem Z2.below (h : Z2 zc t n ms W0 X o g m) (hb : Below X.heap.size X Y) : Z2 zc t n ms W0 Y o g m := ⟨h.z.below hb, h.r.below hb, h.l⟩
theorem Z2.drew (h : Z2 zc t n ms W0 X o g m) : Z2 zc t n ms W0 X.drew o g m := ⟨h.z.drew, h.r.below (Below.refl _ _).drew, h.l⟩
theorem Z2.box (h : Z2 zc t n ms W0 X none g m) : Z2 zc t n ms W0 (X.alloc (.cells zc t)) (some X.heap.size) g m := ⟨h.z.box, h.r.below ((Below.refl _ _).alloc (Nat.le_refl _) _), h.l⟩
end
/-- .. and a layout -/
structure Z3 (zc : Array Value) (t : TypeId) (base : Nat) (L : Lay) (W0 X : World) (o : Option Nat) (a0 : Option Addr) (c0 : Nat) (xs : List PB) (a2 : Option Addr) (c2 : Nat) (a5 : Option Addr) (c5 : Nat) (ts : List TB) : Prop where
  z : Zb zc t W0 X o
  l : ∃ b, base ≤ b ∧ LayO X b L a0 c0 xs a2 c2 a5 c5 ts ∧ ∀ g, o = some g → g < b
/-- a layout's cells -/
abbrev lyV (L : Lay) (a0 : Option Addr) (c0 : Nat) (xs : List PB) (a2 : Option Addr) (c2 : Nat) (a5 : Option Addr) (c5 : Nat) (ts : List TB) : Array Value := #[.slice a0 xs.length c0, .int .i64 L.stack, .slice a2 L.slots.length c2, .int .i64 L.flash, .int .i64 L.ram, .slice a5 ts.length c5]
/-- what stands when the region is over -/
structure Fin5 (base : Nat) (L : Lay) (W0 : World) (gb : Nat) (a0 : Option Addr) (c0 : Nat) (xs : List PB) (a2 : Option Addr) (c2 : Nat) (a5 : Option Addr) (c5 : Nat) (ts : List TB) (W : World) : Prop where
  b : Below W0.heap.size W0 W
  g : W0.heap.size ≤ gb
  k : Blk W gb #[.slice a0 xs.length c0, .int .i64 L.stack, .slice a2 L.slots.length c2, .int .i64 L.flash, .int .i64 L.ram, .slice a5 ts.length c5] 36
  l : LayO W base L a0 c0 xs a2 c2 a5 c5 ts
section
variable {base : Nat} {L : Lay} {W0 X : World} {gb : Nat} {a0 : Option Addr} {c0 : Nat} {xs : List PB} {a2 : Option Addr} {c2 : Nat} {a5 : Option Addr} {c5 : Nat} {ts : List TB}
theorem Z3.fin {zc : Array Value} {t : TypeId} (h : Z3 zc t base L W0 X none a0 c0 xs a2 c2 a5 c5 ts) : Fin5 base L W0 X.heap.size a0 c0 xs a2 c2 a5 c5 ts (X.alloc (.cells #[.slice a0 xs.length c0, .int .i64 L.stack, .slice a2 L.slots.length c2, .int .i64 L.flash, .int .i64 L.ram, .slice a5 ts.length c5] 36)) := by
  have hb : Below X.heap.size X (X.alloc (.cells #[.slice a0 xs.length c0, .int .i64 L.stack, .slice a2 L.slots.length c2, .int .i64 L.flash, .int .i64 L.ram, .slice a5 ts.length c5] 36)) := (Below.refl _ _).alloc (Nat.le_refl _) _
  obtain ⟨b, hb1, hl, _⟩ := h.l
  exact ⟨h.z.1.trans (hb.mono h.z.1.size), h.z.1.size, Blk.new X _ _, (hl.mono hb1).below' hb⟩
theorem Z3.fin' (h : Z3 #[.slice none 0 0, .int .i64 0, .slice none 0 0, .int .i64 0, .int .i64 0, .slice none 0 0] 36 base L W0 X (some gb) a0 c0 xs a2 c2 a5 c5 ts) : Fin5 base L W0 gb a0 c0 xs a2 c2 a5 c5 ts ((((((X.setCell ⟨gb, 0, none⟩ (.slice a0 xs.length c0)).setCell ⟨gb, 1, none⟩ (.int .i64 L.stack)).setCell ⟨gb, 2, none⟩ (.slice a2 L.slots.length c2)).setCell ⟨gb, 3, none⟩ (.int .i64 L.flash)).setCell ⟨gb, 4, none⟩ (.int .i64 L.ram)).setCell ⟨gb, 5, none⟩ (.slice a5 ts.length c5)) := by
  obtain ⟨hg, hk⟩ := h.z.2 gb rfl
  have T : Turn (fun j => j = gb) X ((((((X.setCell ⟨gb, 0, none⟩ (.slice a0 xs.length c0)).setCell ⟨gb, 1, none⟩ (.int .i64 L.stack)).setCell ⟨gb, 2, none⟩ (.slice a2 L.slots.length c2)).setCell ⟨gb, 3, none⟩ (.int .i64 L.flash)).setCell ⟨gb, 4, none⟩ (.int .i64 L.ram)).setCell ⟨gb, 5, none⟩ (.slice a5 ts.length c5)) := (((((turn_set _ _ _ _).trans (turn_set _ _ _ _)).trans (turn_set _ _ _ _)).trans (turn_set _ _ _ _)).trans (turn_set _ _ _ _)).trans (turn_set _ _ _ _)
  have K := (((((hk.set 0 (.slice a0 xs.length c0)).set 1 (.int .i64 L.stack)).set 2 (.slice a2 L.slots.length c2)).set 3 (.int .i64 L.flash)).set 4 (.int .i64 L.ram)).set 5 (.slice a5 ts.length c5)
  have B := below_turn h.z.1 T (fun k e => by omega) h.z.1.size
  obtain ⟨b, hb1, hl, hlt⟩ := h.l
  have hgb := hlt gb rfl
  have O := hl.kept T (fun j hj _ e => by omega)
  generalize ((((((X.setCell ⟨gb, 0, none⟩ (.slice a0 xs.length c0)).setCell ⟨gb, 1, none⟩ (.int .i64 L.stack)).setCell ⟨gb, 2, none⟩ (.slice a2 L.slots.length c2)).setCell ⟨gb, 3, none⟩ (.int .i64 L.flash)).setCell ⟨gb, 4, none⟩ (.int .i64 L.ram)).setCell ⟨gb, 5, none⟩ (.slice a5 ts.length c5)) = Y at *
  exact ⟨B, hg, K, O.mono hb1⟩
end
/-- what must stay: the arguments' box, the first answer and its box -/
structure Kp (cf : Array Value) (tc : TypeId) (base : Nat) (L : Lay) (w W5 : World) (gb : Nat) (a0 : Option Addr) (c0 : Nat) (xs : List PB) (a2 : Option Addr) (c2 : Nat) (a5 : Option Addr) (c5 : Nat) (ts : List TB) (W : World) : Prop where
  be : Below w.heap.size w W
  kc : Blk W w.heap.size cf tc
  kw : Blk W gb #[.slice a0 xs.length c0, .int .i64 L.stack, .slice a2 L.slots.length c2, .int .i64 L.flash, .int .i64 L.ram, .slice a5 ts.length c5] 36
  lw : LayO W base L a0 c0 xs a2 c2 a5 c5 ts
  l5 : LayO W5 base L a0 c0 xs a2 c2 a5 c5 ts
  n5 : w.heap.size < W5.heap.size ∧ gb < W5.heap.size
  w5 : W5.heap.size ≤ W.heap.size
section
variable {cf : Array Value} {tc : TypeId} {base : Nat} {L : Lay} {w W5 W W' : World} {gb : Nat} {a0 : Option Addr} {c0 : Nat} {xs : List PB} {a2 : Option Addr} {c2 : Nat} {a5 : Option Addr} {c5 : Nat} {ts : List TB}
theorem Kp.turn {S : Nat → Prop} (h : Kp cf tc base L w W5 gb a0 c0 xs a2 c2 a5 c5 ts W) (t : Turn S W W') (hS : ∀ j, S j → W5.heap.size ≤ j) : Kp cf tc base L w W5 gb a0 c0 xs a2 c2 a5 c5 ts W' where
  be := below_turn h.be t (fun k s => by have := hS k s; have := h.n5.1; omega) h.be.size
  kc := turn_blk t h.kc (fun s => by have := hS _ s; have := h.n5.1; omega)
  kw := turn_blk t h.kw (fun s => by have := hS _ s; have := h.n5.2; omega)
  lw := by
    refine ⟨h.lw.p.kept t (fun k hk s => ?_) (fun x hx k hk s => ?_), h.lw.ps, h.lw.s.kept t (fun k hk s => ?_), h.lw.t.kept t (fun k hk s => ?_) (fun x hx k hk s => ?_), h.lw.tt, h.lw.sp⟩
    · have := (h.l5.p.lt.1 k hk).2; have := hS k s; omega
    · have := (h.l5.p.lt.2 x hx k hk).2; have := hS k s; omega
    · have := (h.l5.s.lt k hk).2; have := hS k s; omega
    · have := (h.l5.t.lt.1 k hk).2; have := hS k s; omega
    · have := (h.l5.t.lt.2 x hx k hk).2; have := hS k s; omega
  l5 := h.l5
  n5 := h.n5
  w5 := Nat.le_trans h.w5 t.size
theorem Kp.below (h : Kp cf tc base L w W5 gb a0 c0 xs a2 c2 a5 c5 ts W) (hb : Below W.heap.size W W') : Kp cf tc base L w W5 gb a0 c0 xs a2 c2 a5 c5 ts W' := h.turn (S := fun _ => False) (turn_below hb) (fun _ s => absurd s id)
end
end Go.Proofs.YtngdgogjlpjjpaeGreat
