import Derived.Maps.AppendAt
import Derived.Test.YtngdgogjlpjjpaeGreatP00
import Derived.Test.YtngdgogjlpjjpaeGreatP01
import Derived.Test.YtngdgogjlpjjpaeGreatP06
import Derived.Test.YtngdgogjlpjjpaeGreatP07
import Derived.Test.YtngdgogjlpjjpaeGreatP08
import Derived.Test.YtngdgogjlpjjpaeGreatP11
import Derived.Test.YtngdgogjlpjjpaeGreatP12
import Derived.Test.YtngdgogjlpjjpaeGreatP14
import Derived.Test.YtngdgogjlpjjpaeGreatP15
namespace Go.Proofs.YtngdgogjlpjjpaeGreat
open Go.RowKit Classical
set_option linter.unusedVariables false
set_option linter.unusedSimpArgs false
set_option maxRecDepth 100000
def cfQ (L : Lay) : Int := wrap64 ((wrap64 (wrap64 (65536 + L.ram) - L.slots.getD 0 0)).tdiv (L.slots.length : Int))
def cfW (L : Lay) : Int := if L.slots = [] then 1 else wrap64 ((cfQ L).tdiv 4)
def cfK (L : Lay) : Int := wrap64 (endOf L - L.stack)
set_option maxHeartbeats 4000000 in
theorem configOf_any (L : Lay) (a0 : Option Addr) (c0 : Nat) (xs : List PB) (a2 : Option Addr) (c2 : Nat) (a5 : Option Addr) (c5 : Nat) (ts : List TB) (w : World) (h : LyT w L a0 c0 xs a2 c2 a5 c5 ts) :
    Calls Tryz.prog 142 #[.agg #[.slice a0 xs.length c0, .int .i64 L.stack, .slice a2 L.slots.length c2, .int .i64 L.flash, .int .i64 L.ram, .slice a5 ts.length c5]] w fun e w' => e = .returned (.agg #[.int .i64 L.slots.length, .int .i64 (cfW L), .int .i64 (cfK L), .int .i64 0]) ∧ Below w.heap.size w w' := by
  have hmx := h.s.2.1
  unfold maxLen at hmx
  by_cases c : L.slots = []
  · have hl : L.slots.length = 0 := by rw [c]; rfl
    have hW := hide (show cfW L = 1 by unfold cfW; rw [if_pos c])
    have hK := hide (show cfK L = wrap64 (wrap64 (65536 + L.ram) - L.stack) by unfold cfK endOf; rw [if_pos c])
    rw [hW.out, hK.out, hl]
    go_enter Tryz.func142, Tryz.ntmps142
    go_wp2
    refine bodyPost_ret (v := .agg #[.int .i64 0, .int .i64 1, .int .i64 (wrap64 (wrap64 (65536 + L.ram) - L.stack)), .int .i64 0]) (by simp [results, Tryz.results142, go_sem]) rfl ⟨rfl, ?_⟩
    exact ((Below.refl _ _).alloc (Nat.le_refl _) _).alloc (by simp) _
  · have hl : 0 < L.slots.length := List.length_pos_iff.2 c
    have hl' : (0 : Int) < (L.slots.length : Int) := by omega
    have he : ((L.slots.length : Int) == 0) = false := by simp; omega
    have hW := hide (show cfW L = wrap64 ((cfQ L).tdiv 4) by unfold cfW; rw [if_neg c])
    have hK := hide (show cfK L = wrap64 (L.slots.getD 0 0 - L.stack) by unfold cfK endOf; rw [if_neg c])
    rw [hW.out, hK.out]
    have hQ := hide (show cfQ L = wrap64 ((wrap64 (wrap64 (65536 + L.ram) - L.slots.getD 0 0)).tdiv (L.slots.length : Int)) from rfl)
    clear hW hK
    obtain ⟨b, off, rfl, hc⟩ := h.s.2.2.2.1 (by omega)
    have q := hc 0 hl
    have qlt := World.block_lt_of_cell? _ _ q
    rw [Nat.add_zero] at q
    generalize L.slots.length = n at *
    generalize L.slots.getD 0 0 = z at *
    generalize cfQ L = Q at *
    clear hc c h
    have B0 : Below w.heap.size w ((w.alloc (.cells #[.slice a0 xs.length c0, .int .i64 L.stack, .slice (some ⟨b, off, none⟩) n c2, .int .i64 L.flash, .int .i64 L.ram, .slice a5 ts.length c5] 36)).alloc (.cells #[.int .i64 0, .int .i64 0, .int .i64 0, .int .i64 0] 44)) := ((Below.refl _ _).alloc (Nat.le_refl _) _).alloc (by simp) _
    have u := (Blk.new w #[.slice a0 xs.length c0, .int .i64 L.stack, .slice (some ⟨b, off, none⟩) n c2, .int .i64 L.flash, .int .i64 L.ram, .slice a5 ts.length c5] 36).alloc (.cells #[.int .i64 0, .int .i64 0, .int .i64 0, .int .i64 0] 44)
    have v := Blk.new (w.alloc (.cells #[.slice a0 xs.length c0, .int .i64 L.stack, .slice (some ⟨b, off, none⟩) n c2, .int .i64 L.flash, .int .i64 L.ram, .slice a5 ts.length c5] 36)) #[.int .i64 0, .int .i64 0, .int .i64 0, .int .i64 0] 44
    simp only [World.size_alloc] at v
    have HF := hide (fun (nq : Nat) => And.intro (below_drewN B0 nq) (And.intro (u.below (below_drewN (Below.refl _ _) nq)) (v.below (below_drewN (Below.refl _ _) nq))))
    clear B0 u v
    go_enter Tryz.func142, Tryz.ntmps142
    go_wp2
    go_quiet (fail)
    rw [← hQ.out]
    go_wp2
    obtain ⟨B1, u, v⟩ := HF.out nq
    clear HF
    generalize (((w.alloc (.cells #[.slice a0 xs.length c0, .int .i64 L.stack, .slice (some ⟨b, off, none⟩) n c2, .int .i64 L.flash, .int .i64 L.ram, .slice a5 ts.length c5] 36)).alloc (.cells #[.int .i64 0, .int .i64 0, .int .i64 0, .int .i64 0] 44)).drewN nq) = W at *
    have q' := cell_below B1 q
    have p1 : W.cell? ⟨w.heap.size, 1, none⟩ = some (.int .i64 L.stack) := u.cell 1
    have p2 : W.cell? ⟨w.heap.size, 2, none⟩ = some (.slice (some ⟨b, off, none⟩) n c2) := u.cell 2
    have v0 : W.cell? ⟨w.heap.size + 1, 0, none⟩ = some (.int .i64 0) := v.cell 0
    have v1 : W.cell? ⟨w.heap.size + 1, 1, none⟩ = some (.int .i64 0) := v.cell 1
    have v2 : W.cell? ⟨w.heap.size + 1, 2, none⟩ = some (.int .i64 0) := v.cell 2
    have v3 : W.cell? ⟨w.heap.size + 1, 3, none⟩ = some (.int .i64 0) := v.cell 3
    have vf := v.frozen
    have nb : b ≠ w.heap.size + 1 := by omega
    have nb' : w.heap.size + 1 ≠ b := by omega
    have HB1 := hide (And.intro B1 v)
    clear u v B1
    go_region_held3 (fun w' => w'.cell? ⟨w.heap.size, 1, none⟩ = some (.int .i64 L.stack) ∧ w'.cell? ⟨w.heap.size, 2, none⟩ = some (.slice (some ⟨b, off, none⟩) n c2) ∧ w'.cell? ⟨b, off, none⟩ = some (.int .i64 z)) (go_keep) (fail)
    simp only [IntWalk.i64_left]
    have kz := (((HB1.out.2.set 0 (.int .i64 n)).set 1 (.int .i64 (wrap64 (Q.tdiv 4)))).set 2 (.int .i64 (wrap64 (z - L.stack)))).set 3 (.int .i64 0)
    have T : Turn (fun j => j = w.heap.size + 1) W ((((W.setCell ⟨w.heap.size + 1, 0, none⟩ (.int .i64 n)).setCell ⟨w.heap.size + 1, 1, none⟩ (.int .i64 (wrap64 (Q.tdiv 4)))).setCell ⟨w.heap.size + 1, 2, none⟩ (.int .i64 (wrap64 (z - L.stack)))).setCell ⟨w.heap.size + 1, 3, none⟩ (.int .i64 0)) := (((turn_set _ _ _ _).trans (turn_set _ _ _ _)).trans (turn_set _ _ _ _)).trans (turn_set _ _ _ _)
    have HB2 := hide (below_turn HB1.out.1 T (fun k e => by omega) HB1.out.1.size)
    simp only [List.setIfInBounds_toArray, List.set_cons_zero, List.set_cons_succ] at kz
    generalize ((((W.setCell ⟨w.heap.size + 1, 0, none⟩ (.int .i64 n)).setCell ⟨w.heap.size + 1, 1, none⟩ (.int .i64 (wrap64 (Q.tdiv 4)))).setCell ⟨w.heap.size + 1, 2, none⟩ (.int .i64 (wrap64 (z - L.stack)))).setCell ⟨w.heap.size + 1, 3, none⟩ (.int .i64 0)) = W2 at *
    have s0 : W2.drew.cell? ⟨w.heap.size + 1, 0, none⟩ = some (.int .i64 n) := kz.cell 0
    have s1 : W2.drew.cell? ⟨w.heap.size + 1, 1, none⟩ = some (.int .i64 (wrap64 (Q.tdiv 4))) := kz.cell 1
    have s2 : W2.drew.cell? ⟨w.heap.size + 1, 2, none⟩ = some (.int .i64 (wrap64 (z - L.stack))) := kz.cell 2
    have s3 : W2.drew.cell? ⟨w.heap.size + 1, 3, none⟩ = some (.int .i64 0) := kz.cell 3
    clear T kz HB1
    go_wp2
    exact bodyPost_ret (v := .agg #[.int .i64 n, .int .i64 (wrap64 (Q.tdiv 4)), .int .i64 (wrap64 (z - L.stack)), .int .i64 0]) (by simp [results, Tryz.results142, go_sem, s0, s1, s2, s3]) rfl ⟨rfl, HB2.out.drew⟩
def Lok (ps : List PMod) (L : Lay) : Prop := lkc ps (L.slots.length : Int) (cfW L) (cfK L) 0 = 0 ∧ lkL ps (L.slots.length : Int) (cfW L) (cfK L) 0 = L
def plE (a b:Pl):Decidable (a=b):=decidable_of_iff (a.text=b.text /\ a.banks=b.banks /\ a.data=b.data /\ a.size=b.size) (by cases a;cases b;simp)
def layE (a b:Lay):Decidable (a=b):=
 have:DecidableEq Pl:=plE
 decidable_of_iff (a.places=b.places /\ a.stack=b.stack /\ a.slots=b.slots /\ a.flash=b.flash /\ a.ram=b.ram /\ a.targets=b.targets) (by cases a;cases b;simp)
def lokD (ps:List PMod)(L:Lay):Decidable (Lok ps L):=@instDecidableAnd _ _ _ (layE _ _)
def lokB (ps:List PMod)(L:Lay):Bool:=@decide _ (lokD ps L)
theorem lokB_iff {ps:List PMod}{L:Lay}:lokB ps L=true ↔ Lok ps L:=⟨@of_decide_eq_true _ (lokD ps L),@decide_eq_true _ (lokD ps L)⟩
theorem reb_rows (gs : List Nat) (bl : List Bk) : (reb gs bl).map (fun B => B.2.2.2) = bl.map (fun B => B.2.2.2) := by
  apply List.ext_getElem
  · simp [reb_len]
  · intro i h1 h2
    simp [reb] at h1 ⊢
    simp [h1]
theorem copy_pm {c : Nat} {m m' : Md} {W : World} (h : CopyOf c m m' W) : m'.pm = m.pm := by
  obtain ⟨g1, g2, g3, g5, g6, g7, gs, rfl, _⟩ := h
  simp only [Md.pm, reb_rows]
theorem rowm_pms {W : World} {c n : Nat} {ms ms' : List Md} (h : RowM W c n ms ms') (hl : ms'.length = n) (hl0 : ms.length = n) : pmS ms' = pmS ms := by
  apply List.ext_getElem
  · simp [pmS, hl, hl0]
  · intro i h1 h2
    simp only [pmS, List.length_map] at h1 h2
    have e := copy_pm (h.2.2 i (by omega)).2
    simpa [pmS, List.getD_eq_getElem?_getD, h1, h2] using e
theorem copy_size {c : Nat} {m m' : Md} {W : World} (h : CopyOf c m m' W) (hb : m.bl.length = m.bn) : m'.size = m.size := by
  obtain ⟨g1, g2, g3, g5, g6, g7, gs, rfl, _⟩ := h
  exact reb_size _ _ _ _ _ _ _ _ _ _ _ hb
theorem rowm_msd {W w : World} {c n cap : Nat} {a : Option Addr} {ms ms' : List Md} (h : RowM W c n ms ms') (hl : ms'.length = n) (hm : MS w a n cap ms) (hs : ∀ i, i < n → (ms.getD i zMd).size ≤ 1048576) : MSD W (some ⟨c, 0, none⟩) n n ms' :=
  ⟨h.ms hl hm, fun i hi => md_of_mt (copy_mt (hm.2.2.2.1 i hi) (h.2.2 i (by omega)).2) (by
    have e := copy_size (h.2.2 i (by omega)).2 (hm.2.2.2.1 i hi).b.1
    have := hs i hi
    unfold Md.size at e this
    rw [e]
    exact this)⟩
theorem LayO.kept {W W' : World} {base : Nat} {L : Lay} {a0 : Option Addr} {c0 : Nat} {xs : List PB} {a2 : Option Addr} {c2 : Nat} {a5 : Option Addr} {c5 : Nat} {ts : List TB} {S : Nat → Prop} (h : LayO W base L a0 c0 xs a2 c2 a5 c5 ts) (t : Turn S W W') (hs : ∀ j, base ≤ j → j < W.heap.size → ¬ S j) : LayO W' base L a0 c0 xs a2 c2 a5 c5 ts where
  p := h.p.kept t (fun k hk => hs k (h.p.lt.1 k hk).1 (h.p.lt.1 k hk).2) (fun x hx k hk => hs k (h.p.lt.2 x hx k hk).1 (h.p.lt.2 x hx k hk).2)
  ps := h.ps
  s := h.s.kept t (fun k hk => hs k (h.s.lt k hk).1 (h.s.lt k hk).2)
  t := h.t.kept t (fun k hk => hs k (h.t.lt.1 k hk).1 (h.t.lt.1 k hk).2) (fun x hx k hk => hs k (h.t.lt.2 x hx k hk).1 (h.t.lt.2 x hx k hk).2)
  tt := h.tt
  sp := h.sp
theorem LayO.below' {W W' : World} {base : Nat} {L : Lay} {a0 : Option Addr} {c0 : Nat} {xs : List PB} {a2 : Option Addr} {c2 : Nat} {a5 : Option Addr} {c5 : Nat} {ts : List TB} (h : LayO W base L a0 c0 xs a2 c2 a5 c5 ts) (hb : Below W.heap.size W W') : LayO W' base L a0 c0 xs a2 c2 a5 c5 ts := h.kept (S := fun _ => False) (turn_below hb) (fun _ _ _ s => s)
theorem w64in (n : Int) (h : -9223372036854775808 ≤ n ∧ n ≤ 9223372036854775807) : wrap64 n = n := by unfold wrap64; omega
theorem lkc_all {ps : List PMod} {s w k d : Int} : lkc ps s w k d = 0 ↔ cfo s w k d = true ∧ 1 ≤ ps.length ∧ ps.length ≤ 4 ∧ vlds ps ∧ nms ps ∧ imps ps ∧ (0 < s → shrt ps w) ∧ (lay ps s w k).flash ≤ 16384 ∧ (lay ps s w k).ram ≤ 16384 := by
  constructor
  · intro h
    unfold lkc snd4 at h
    by_cases c1 : cfo s w k d = false
    · rw [if_pos c1] at h; simp at h
    rw [if_neg c1] at h
    by_cases c2 : ps.length < 1 ∨ 4 < ps.length
    · rw [if_pos c2] at h; simp at h
    rw [if_neg c2] at h
    by_cases c3 : ¬ vlds ps
    · rw [if_pos c3] at h; simp at h
    rw [if_neg c3] at h
    by_cases c4 : ¬ nms ps
    · rw [if_pos c4] at h; simp at h
    rw [if_neg c4, if_neg (by simp)] at h
    by_cases c5 : ¬ imps ps
    · rw [if_pos c5] at h; simp at h
    rw [if_neg c5] at h
    by_cases c6 : 0 < s ∧ ¬ shrt ps w
    · rw [if_pos c6] at h; simp at h
    rw [if_neg c6] at h
    by_cases c7 : 16384 < (lay ps s w k).flash
    · rw [if_pos c7] at h; simp at h
    rw [if_neg c7] at h
    by_cases c8 : 16384 < (lay ps s w k).ram
    · rw [if_pos c8] at h; simp at h
    exact ⟨by simpa using c1, by omega, by omega, Classical.not_not.1 c3, Classical.not_not.1 c4, Classical.not_not.1 c5, fun h => Classical.not_not.1 (fun e => c6 ⟨h, e⟩), by omega, by omega⟩
  · rintro ⟨h1, h2, h3, h4, h5, h6, h7, h8, h9⟩
    have e0 : snd4 ps s w k d = 0 := by unfold snd4; rw [if_neg (by simp [h1]), if_neg (by omega), if_neg (fun e => e h4), if_neg (fun e => e h5)]
    unfold lkc
    rw [if_neg (by rw [e0]; simp), if_neg (fun e => e h6), if_neg (fun e => e.2 (h7 e.1)), if_neg (by omega), if_neg (by omega)]
theorem lay_w {ps : List PMod} {s w w' k : Int} (h : s = 0 ∨ rnd (4 * w) = rnd (4 * w')) : lay ps s w k = lay ps s w' k := by
  rcases h with rfl | h
  · simp [lay]
  · have e : slt ps w k = slt ps w' k := by funext i; unfold slt; rw [h]
    unfold lay
    rw [h, e]
theorem lok_lk {ps : List PMod} {s w k d : Int} (h : lkc ps s w k d = 0) : Lok ps (lay ps s w k) := by
  obtain ⟨h1, h2, h3, h4, h5, h6, h7, h8, h9⟩ := lkc_all.1 h
  have hc := h1
  unfold cfo at hc
  simp at hc
  obtain ⟨s0, s1, w0, w1, k0, k1, k2, d0, d1⟩ := hc
  have a1 := Ra_range h4 ps.length (Nat.le_refl _)
  have a4 := rnd_range (x := 4 * w) (by omega)
  have hr : (lay ps s w k).ram = Ra ps ps.length + k + (s.toNat : Int) * rnd (4 * w) := rfl
  have ht : (lay ps s w k).stack = 65536 + Ra ps ps.length := rfl
  have hl : (lay ps s w k).slots.length = s.toNat := by simp [lay]
  have main : ∀ w', cfW (lay ps s w k) = w' → (s = 0 ∨ rnd (4 * w) = rnd (4 * w')) → 1 ≤ w' → w' ≤ 64 → (0 < s → w ≤ w') → cfK (lay ps s w k) = k → Lok ps (lay ps s w k) := by
    intro w' e1 e2 e3 e4 e5 e6
    have el := lay_w (ps := ps) (k := k) e2
    have hs : ((s.toNat : Nat) : Int) = s := by omega
    have hz : lkc ps s w' k 0 = 0 := lkc_all.2 ⟨by unfold cfo; simp; omega, h2, h3, h4, h5, h6, fun hs i hi j hj => Int.le_trans (h7 hs i hi j hj) (e5 hs), by rw [← el]; exact h8, by rw [← el]; exact h9⟩
    unfold Lok
    rw [hl, hs, e1, e6]
    exact ⟨hz, by unfold lkL; rw [if_pos hz, el]⟩
  by_cases c : s = 0
  · subst c
    have e0 : (lay ps 0 w k).slots = [] := by simp [lay]
    have hr0 : (lay ps 0 w k).ram = Ra ps ps.length + k := by rw [hr]; simp
    refine main 1 (by unfold cfW; rw [if_pos e0]) (.inl rfl) (by omega) (by omega) (fun h => absurd h (by omega)) ?_
    unfold cfK endOf
    rw [if_pos e0, hr0, ht, w64in (65536 + (Ra ps ps.length + k)) (by omega), w64in _ (by omega)]
    omega
  · have hp : 0 < s.toNat := by omega
    have hne : ¬ (lay ps s w k).slots = [] := fun e => by rw [e] at hl; simp at hl; omega
    have e0 : (lay ps s w k).slots.getD 0 0 = 65536 + Ra ps ps.length + k := by
      simp [lay, List.getD_eq_getElem?_getD, hp, slt]
    have hm : (s.toNat : Int) * rnd (4 * w) ≤ 4 * 287 := Int.mul_le_mul (by omega) (by omega) (by omega) (by omega)
    have hm0 : (0 : Int) ≤ (s.toNat : Int) * rnd (4 * w) := Int.mul_nonneg (by omega) (by omega)
    have eq : cfQ (lay ps s w k) = rnd (4 * w) := by
      unfold cfQ
      rw [hr, e0, hl, w64in (65536 + _) (by omega), w64in (65536 + _ - _) (by omega), show 65536 + (Ra ps ps.length + k + (s.toNat : Int) * rnd (4 * w)) - (65536 + Ra ps ps.length + k) = rnd (4 * w) * (s.toNat : Int) by rw [Int.mul_comm (rnd (4 * w))]; omega, Int.mul_tdiv_cancel _ (by omega), w64in _ (by omega)]
    have hrn : rnd (4 * w) = (4 * w + 31) / 32 * 32 := rfl
    refine main (rnd (4 * w) / 4) ?_ (.inr ?_) (by omega) (by omega) (fun _ => by omega) ?_
    · unfold cfW
      rw [if_neg hne, eq, Int.tdiv_eq_ediv_of_nonneg (by omega), w64in _ (by omega)]
    · rw [hrn]; unfold rnd; omega
    · unfold cfK endOf
      rw [if_neg hne, e0, ht, w64in _ (by omega)]
      omega
end Go.Proofs.YtngdgogjlpjjpaeGreat
namespace Go.Proofs.YtngdgogjlpjjpaeGreat
open Go.RowKit Classical
set_option linter.unusedVariables false
theorem pow_32 (l : Int) (hl : 8 ≤ l) (hl2 : l ≤ 14) : (32:Int) ∣ (2:Int)^(l - 3).toNat := by
  have : l = 8 ∨ l = 9 ∨ l = 10 ∨ l = 11 ∨ l = 12 ∨ l = 13 ∨ l = 14 := by omega
  rcases this with rfl | rfl | rfl | rfl | rfl | rfl | rfl <;> decide
theorem pow_32' (l : Int) (hl : 5 ≤ l) (hl2 : l ≤ 14) : (32:Int) ∣ (2:Int)^l.toNat := by
  have : l = 5 ∨ l = 6 ∨ l = 7 ∨ l = 8 ∨ l = 9 ∨ l = 10 ∨ l = 11 ∨ l = 12 ∨ l = 13 ∨ l = 14 := by omega
  rcases this with rfl | rfl | rfl | rfl | rfl | rfl | rfl | rfl | rfl | rfl <;> decide
theorem qOf_cnt (a en l : Int) (hl : 5 ≤ l) (hl2 : l ≤ 14) (ha : 0 ≤ a) (hae : a < en) (hen : en ≤ 262144) : a + cnt l (qOf a en l) ≤ en ∧ (32:Int) ∣ cnt l (qOf a en l) := by
  obtain ⟨P, hP⟩ : ∃ P, (2:Int)^(l - 3).toNat = P := ⟨_, rfl⟩
  obtain ⟨N, hN⟩ : ∃ N, (2:Int)^l.toNat = N := ⟨_, rfl⟩
  obtain ⟨g1, g2, g3, g4, g5, g6, g7⟩ := parts a l P N hl hl2 hP hN ha (by omega)
  have h0 : a + cnt l 0 ≤ en ∧ (32:Int) ∣ cnt l 0 := by rw [cnt_zero]; exact ⟨by omega, Int.dvd_zero _⟩
  by_cases h8 : l < 8
  · by_cases hc : a % N = 0 ∧ a + N ≤ en
    · have e : qOf a en l = 255 := by unfold qOf; rw [if_pos h8, hN, if_pos hc]
      have e2 : cnt l 255 = N := by unfold cnt; rw [hP, show popc 255 = 8 from rfl, g1]; rfl
      rw [e, e2]
      refine ⟨hc.2, ?_⟩
      rw [← hN]
      exact pow_32' l hl hl2
    · have e : qOf a en l = 0 := by unfold qOf; rw [if_pos h8, hN, if_neg hc]
      rw [e]
      exact h0
  · by_cases hm : a % P = 0
    · have e : qOf a en l = runq (i0Of a l) (jOf a en l) := by unfold qOf; rw [if_neg h8, hP, if_pos hm]
      have hj : ((jOf a en l : Nat) : Int) ≤ (en - a) / P ∧ i0Of a l + jOf a en l ≤ 8 := by
        have : 0 ≤ (en - a) / P := Int.ediv_nonneg (by omega) (by omega)
        unfold jOf
        rw [hP]
        omega
      rw [e, cnt_run l P hP _ _ g5 hj.2]
      have := Int.mul_le_of_le_ediv (by omega) hj.1
      refine ⟨by omega, ?_⟩
      rw [← hP]
      exact Int.dvd_mul_of_dvd_right (pow_32 l (by omega) hl2)
    · have e : qOf a en l = 0 := by unfold qOf; rw [if_neg h8, hP, if_neg hm]
      rw [e]
      exact h0
theorem cvFold_gives (a en : Int) (ha : 0 ≤ a) (hae : a < en) (hen : en ≤ 262144) : ∀ n : Nat, n ≤ 10 → ∀ b l q, cvFold a en n = some (b, l, q) → 5 ≤ l ∧ l ≤ 14 ∧ b = baseOf a l ∧ q = qOf a en l
  | 0, _ => fun b l q h => by rw [cvFold_none] at h; cases h
  | n + 1, hn => by
    have ih := cvFold_gives a en ha hae hen n (by omega)
    intro b l q h
    rw [cvFold_succ] at h
    unfold keep at h
    split at h
    · simp at h
      obtain ⟨rfl, rfl, rfl⟩ := h
      exact ⟨by omega, by omega, rfl, rfl⟩
    · exact ih b l q h
theorem cvFold_some (a en : Int) (ha : 0 ≤ a) (hae : a + 32 ≤ en) (ha32 : a % 32 = 0) : ∀ n : Nat, ∃ x, cvFold a en (n + 1) = some x
  | 0 => by
    have e : qOf a en 5 = 255 := by
      unfold qOf
      rw [if_pos (by omega), if_pos]
      exact ⟨ha32, hae⟩
    refine ⟨(baseOf a 5, 5, 255), ?_⟩
    rw [cvFold_succ, cvFold_none]
    show keep none (baseOf a 5) 5 (qOf a en 5) = _
    rw [e]
    rfl
  | n + 1 => by
    obtain ⟨x, hx⟩ := cvFold_some a en ha hae ha32 n
    rw [cvFold_succ]
    unfold keep
    split
    · exact ⟨_, rfl⟩
    · exact ⟨x, hx⟩
theorem chosen (a en : Int) (ha : 0 ≤ a) (hae : a < en) (hen : en ≤ 262144) (ha32 : a % 32 = 0) (he32 : en % 32 = 0) :
    ∃ b l q, cvFold a en 10 = some (b, l, q) ∧ 5 ≤ l ∧ l ≤ 14 ∧ q < 256 ∧ 32 ≤ cnt l q ∧ a + cnt l q ≤ en ∧ cnt l q % 32 = 0 ∧ b = baseOf a l ∧ q = qOf a en l := by
  obtain ⟨⟨b, l, q⟩, hx⟩ := cvFold_some a en ha (by omega) ha32 9
  obtain ⟨k1, k2, k3, k4⟩ := cvFold_gives a en ha hae hen 10 (Nat.le_refl _) b l q hx
  obtain ⟨m1, m2, m3, m4⟩ := cvFold_ok a en ha (by omega) 10 (Nat.le_refl _) b l q hx
  obtain ⟨c1, c2⟩ := qOf_cnt a en l k1 k2 ha hae hen
  rw [← k4] at c1 c2
  exact ⟨b, l, q, hx, k1, k2, m3, by omega, c1, by omega, k3, k4⟩
def cvTurn (s : CSt) (next : Int → List Rg) (a : Int) : List Rg :=
  match s with
  | some (b, l, q) => (b, l, 255 - (q : Int), false, false, false) :: next (a + cnt l q)
  | none => []
def cvList (en : Int) : Nat → Int → List Rg
  | 0, _ => []
  | n + 1, a => if a < en then cvTurn (cvFold a en 10) (cvList en n) a else []
theorem cvList_end (en : Int) (n : Nat) (a : Int) (h : ¬ a < en) : cvList en n a = [] := by
  cases n with
  | zero => rfl
  | succ n => exact if_neg h
theorem cvList_step (en : Int) (n : Nat) (a b l : Int) (q : Nat) (h : a < en) (hF : cvFold a en 10 = some (b, l, q)) : cvList en (n + 1) a = (b, l, 255 - (q : Int), false, false, false) :: cvList en n (a + cnt l q) := by
  have e : cvList en (n + 1) a = cvTurn (cvFold a en 10) (cvList en n) a := if_pos h
  rw [e, hF]
  rfl
def grn (x : Int) : Bool := decide (0 ≤ x ∧ x % 32 = 0)
set_option maxHeartbeats 1000000 in
theorem isGrained_any (x : Int) (w : World) :
    Calls Tryz.prog 164 #[.int .i64 x] w fun e w' => e = .returned (.bool (grn x)) ∧ w = w' := by
  by_cases h : 0 ≤ x
  · have HG := hide (show grn x = decide (x % 32 = 0) from by unfold grn; simp [h])
    go_enter Tryz.func164, Tryz.ntmps164
    go_wp2
    go_ret
    refine ⟨ret_bool ?_, rfl⟩
    rw [HG.out]
    rw [Bool.eq_iff_iff]
    simp
  · have HG := hide (show grn x = false from by unfold grn; simp; omega)
    go_enter Tryz.func164, Tryz.ntmps164
    go_wp2
    go_ret
    exact ⟨ret_bool HG.out.symm, rfl⟩
def CvPost (w : World) (ok : Bool) (L : List Rg) (e : Ending) (w' : World) : Prop :=
  ∃ (x : Option Addr) (m cap : Nat), e = .returned (.tuple #[.slice x m cap, .bool ok]) ∧ ORg w' w.heap.size (.slice x m cap) L ∧ Below w.heap.size w w'
theorem org_nil (w : World) (base : Nat) : ORg w base (.slice none 0 0) [] := ⟨⟨rfl, .inl ⟨rfl, rfl⟩⟩, fun _ h => by cases h⟩
def cvOk (f s : Int) : Bool := grn f && grn s && decide (s ≤ 262144 - f)
def cvAll (f s : Int) : List Rg := cvList (f + s) (s / 32).toNat f
set_option maxRecDepth 100000 in
set_option maxHeartbeats 2000000 in
theorem iCover_good (f s : Int) (w : World) (hf : 0 ≤ f) (hf32 : f % 32 = 0) (hs : 0 ≤ s) (hs32 : s % 32 = 0) (hfs : s ≤ 262144 - f) :
    Calls Tryz.prog 274 #[.int .i64 f, .int .i64 s] w (CvPost w true (cvAll f s)) := by
  obtain ⟨i0, hi, hz0, hz1, hz2⟩ := info_parts infoR
  have G1 := hide (isGrained_any f)
  have G2 := hide (isGrained_any s)
  have e1 : grn f = true := by unfold grn; simp; omega
  have e2 : grn s = true := by unfold grn; simp; omega
  rw [e1] at G1
  rw [e2] at G2
  clear e1 e2
  obtain ⟨L, hL⟩ : ∃ L, L = cvAll f s := ⟨_, rfl⟩
  rw [← hL]
  unfold cvAll at hL
  have HL := hide hL
  clear hL
  go_enter Tryz.func274, Tryz.ntmps274
  go_wp2_with fail
  refine (G1.out w).mono ?_
  rintro e w1 ⟨rfl, rfl⟩
  go_wp2_with fail
  refine (G2.out w).mono ?_
  rintro e w1 ⟨rfl, rfl⟩
  go_wp2_with fail
  go_loopw [6, 8] (fun r x wr => ∃ (A : Option Addr) (m cap : Nat) (rs : List Rg) (n : Nat) (a : Int), r = .slice A m cap ∧ x = .int .i64 a ∧ f ≤ a ∧ a ≤ f + s ∧ a % 32 = 0 ∧ f + s - a ≤ 32 * (n : Int) ∧ m + n ≤ 8192 ∧ ORg wr w.heap.size (.slice A m cap) rs ∧ L = rs ++ cvList (f + s) n a ∧ Below w.heap.size w wr) (fun _ x _ => (f + s - intOf x).toNat)
  case atStart => exact ⟨none, 0, 0, [], (s / 32).toNat, f, rfl, rfl, by omega, by omega, hf32, by omega, by omega, org_nil _ _, by rw [HL.out]; rfl, Below.refl _ _⟩
  case round =>
    obtain ⟨A, m, cap, rs, n, a, rfl, rfl, ha, ha2, ha32, hn, hmn, hO, hLL, hB⟩ := hrel
    have hlen := (or_rs hO).1
    by_cases hlt : a < f + s
    · obtain ⟨b, l, q, hF, hl, hl2, hq, hc1, hc2, hc3, hb, _⟩ := chosen a (f + s) (by omega) hlt (by omega) ha32 (by omega)
      obtain ⟨n, rfl⟩ : ∃ n', n = n' + 1 := ⟨n - 1, by omega⟩
      rw [cvList_step (f + s) n a b l q hlt hF] at hLL
      have hbw : 0 ≤ b ∧ b ≤ 262144 := by
        have := base_ok a l _ hl hl2 rfl (by omega) (by omega)
        have := pow_pos l.toNat
        rw [hb]
        unfold baseOf
        omega
      clear hb
      have HW := hide (widest_any a (f + s) wr (by omega) hlt (by omega) b l q hF)
      have HLL := hide hLL
      have HO := hide hO
      have HB := hide hB
      have HC := hide (addressCount_any b l q false false false)
      have HLEN0 := hide hlen
      have hsz := hB.size
      obtain ⟨c, hcc⟩ : ∃ c, c = cnt l q := ⟨_, rfl⟩
      rw [← hcc] at hc1 hc2 hc3 HC HLL
      have HCC := hide hcc
      have HWF := hide (show wfi b ∧ wfi l ∧ wfi (255 - (q : Int)) from by unfold wfi; omega)
      have HQ := hide hq
      clear hLL hO hB hF hlen hcc
      go_wp2_with fail
      refine HW.out.mono ?_
      rintro e w2 ⟨rfl, hb2⟩
      have HB2 := hide (HB.out.trans (hb2.mono hsz))
      obtain ⟨o, ho⟩ : ∃ o, o = 255 - (q : Int) := ⟨_, rfl⟩
      rw [← ho] at HC HLL HWF ⊢
      have hO2 := turn_or (S := fun _ => False) (turn_below hb2) HO.out (fun _ _ => id)
      have hO3 := hO2.1.alloc (.cells #[.int .i64 b, .int .i64 l, .int .i64 o, .bool false, .bool false, .bool false] 158)
      have HOWN := hide (hO3.alloc (.cells #[.int .i64 b, .int .i64 l, .int .i64 o, .bool false, .bool false, .bool false] 158))
      rw [HLEN0.out] at HOWN
      have HLEN := hide (show (cells6 (b, l, o, false, false, false)).length = 1 * 6 from rfl)
      have HNEWS := hide (news6 (w2.alloc (.cells #[.int .i64 b, .int .i64 l, .int .i64 o, .bool false, .bool false, .bool false] 158)) (b, l, o, false, false, false))
      have HONE := hide (one6 (b, l, o, false, false, false))
      have HRS := hide hO2.2
      have HLT := hide hO2.1.lt
      have KB := hide ((Blk.new w2 #[.int .i64 b, .int .i64 l, .int .i64 o, .bool false, .bool false, .bool false] 158).alloc (.cells #[.int .i64 b, .int .i64 l, .int .i64 o, .bool false, .bool false, .bool false] 158))
      have hsz2 := hb2.size
      have HB3 := hide ((HB2.out.alloc (by omega) (.cells #[.int .i64 b, .int .i64 l, .int .i64 o, .bool false, .bool false, .bool false] 158)).alloc (by simp; omega) (.cells #[.int .i64 b, .int .i64 l, .int .i64 o, .bool false, .bool false, .bool false] 158))
      simp only [World.size_alloc] at HNEWS
      clear hO2 hO3 hb2 ho
      go_wp2_with (at_builtin; refine wpList_append_own _ rfl _ _ 68 rfl w.heap.size 158 i0 (.agg #[.int .i64 0, .int .i64 0, .int .i64 0, .bool false, .bool false, .bool false]) 6 32 Tryz.underlying68 hi hz0 hz1 hz2 rfl (by decide) (.slice A m cap) m (flat rs) rfl HOWN.out ⟨w2.heap.size + 1, 0, none⟩ 1 1 (cells6 (b, l, o, false, false, false)) rfl HLEN.out HNEWS.out HONE.out (by unfold maxLen; omega) (by omega) (by simp; omega) ?_; intro v' w3 hown3 hgr3 _; obtain ⟨A', cap', he⟩ := or_shape hown3; subst he; have hO3 := or_more (W := w2) (v := .slice A m cap) (g := (b, l, o, false, false, false)) HRS.out HWF.out (by rw [HLEN0.out]; exact hown3); have t3 := grown_turn hgr3; have hfar : ∀ j, (Value.slice A m cap).ownBlock = some j → w.heap.size ≤ j := fun j hj => (HLT.out j hj).1; have hnot : ∀ j, (Value.slice A m cap).ownBlock = some j → j < w2.heap.size := fun j hj => (HLT.out j hj).2; have hK3 := turn_blk t3 KB.out (fun e => by have := hnot _ e; omega); have hsz3 := t3.size; simp only [World.size_alloc] at hsz3; have HB4 := hide (below_turn HB3.out t3 hfar (by simp; omega)); have HO3 := hide hO3; have HK3 := hide hK3; obtain ⟨q1, q2, q3, q4, q5, q6, q7⟩ := hK3.six'; clear hO3 t3 hfar hnot hown3 hgr3 hK3)
      refine (HC.out w3 HQ.out hl hl2).mono ?_
      rintro e w4 ⟨rfl, hb4⟩
      have HB5 := hide (HB4.out.trans (hb4.mono (by omega)))
      have HO5 := hide (turn_or (S := fun _ => False) (turn_below hb4) HO3.out (fun _ _ => id))
      clear hb4
      go_wp2_with fail
      go_roundw
      case rel => exact ⟨A', m + 1, cap', rs ++ [(b, l, o, false, false, false)], n, a + c, rfl, by go_num, by omega, by omega, by omega, by omega, by omega, HO5.out, by rw [HLL.out]; simp, HB5.out⟩
      case measure => simp [intOf]; omega
    · have hLe : L = rs := by rw [hLL, cvList_end _ _ _ hlt, List.append_nil]
      subst hLe
      have HO := hide hO
      have HB := hide hB
      clear hLL hO hB
      go_wp2
      go_ret2
      exact ⟨A, m, cap, rfl, HO.out, HB.out⟩
set_option maxHeartbeats 1000000 in
theorem iCover_bad (f s : Int) (w : World) (hs0 : -9223372036854775808 ≤ f ∧ f ≤ 9223372036854775807) (h : cvOk f s = false) :
    Calls Tryz.prog 274 #[.int .i64 f, .int .i64 s] w (CvPost w false []) := by
  have G1 := hide (isGrained_any f)
  have G2 := hide (isGrained_any s)
  have HN := hide (org_nil w w.heap.size)
  unfold cvOk at h
  cases e1 : grn f
  · rw [e1] at G1
    clear h e1
    go_enter Tryz.func274, Tryz.ntmps274
    go_wp2_with fail
    refine (G1.out w).mono ?_
    rintro e w1 ⟨rfl, rfl⟩
    go_wp2_with fail
    go_ret2
    exact ⟨none, 0, 0, rfl, HN.out, Below.refl _ _⟩
  · rw [e1] at G1 h
    have hf : 0 ≤ f := by unfold grn at e1; simp at e1; omega
    cases e2 : grn s
    · rw [e2] at G2
      clear h e1 e2
      go_enter Tryz.func274, Tryz.ntmps274
      go_wp2_with fail
      refine (G1.out w).mono ?_
      rintro e w1 ⟨rfl, rfl⟩
      go_wp2_with fail
      refine (G2.out w).mono ?_
      rintro e w1 ⟨rfl, rfl⟩
      go_wp2_with fail
      go_ret2
      exact ⟨none, 0, 0, rfl, HN.out, Below.refl _ _⟩
    · rw [e2] at G2 h
      have hlt : 262144 - f < s := by simp at h; omega
      clear h e1 e2
      go_enter Tryz.func274, Tryz.ntmps274
      go_wp2_with fail
      refine (G1.out w).mono ?_
      rintro e w1 ⟨rfl, rfl⟩
      go_wp2_with fail
      refine (G2.out w).mono ?_
      rintro e w1 ⟨rfl, rfl⟩
      go_wp2_with fail
      go_ret2
      exact ⟨none, 0, 0, rfl, HN.out, Below.refl _ _⟩
def cvL (f s : Int) : List Rg := if cvOk f s then cvAll f s else []
theorem iCover_any (f s : Int) (w : World) (hs0 : -9223372036854775808 ≤ f ∧ f ≤ 9223372036854775807) :
    Calls Tryz.prog 274 #[.int .i64 f, .int .i64 s] w (CvPost w (cvOk f s) (cvL f s)) := by
  unfold cvL
  cases e : cvOk f s
  · exact iCover_bad f s w hs0 e
  · unfold cvOk grn at e
    simp at e
    exact iCover_good f s w (by omega) (by omega) (by omega) (by omega) (by omega)
def ci (i0 j i : Nat) : Nat := min (i - i0) j
theorem ci_in' : ∀ (i0 : Fin 8) (j : Fin 9) (i : Fin 8), (i0.val ≤ i.val ∧ i.val < i0.val + j.val) → (ci i0 j (i.val + 1) = ci i0 j i + 1 ∧ 2 ^ i.val - 1 - runq i0 (ci i0 j i) = 2 ^ (i.val + 1) - 1 - runq i0 (ci i0 j (i.val + 1))) := by decide +kernel
theorem ci_out' : ∀ (i0 : Fin 8) (j : Fin 9) (i : Fin 8), ((i.val < i0.val ∨ i0.val + j.val ≤ i.val) ∧ i0.val + j.val ≤ 8) → (ci i0 j (i.val + 1) = ci i0 j i ∧ 2 ^ i.val - 1 - runq i0 (ci i0 j i) + 2 ^ i.val = 2 ^ (i.val + 1) - 1 - runq i0 (ci i0 j (i.val + 1))) := by decide +kernel
theorem ci_in (i0 : Nat) (h0 : i0 < 8) (j : Nat) (hj : j < 9) (i : Nat) (hi : i < 8) (h : i0 ≤ i ∧ i < i0 + j) : ci i0 j (i + 1) = ci i0 j i + 1 ∧ 2 ^ i - 1 - runq i0 (ci i0 j i) = 2 ^ (i + 1) - 1 - runq i0 (ci i0 j (i + 1)) := ci_in' ⟨i0, h0⟩ ⟨j, hj⟩ ⟨i, hi⟩ h
theorem ci_out (i0 : Nat) (h0 : i0 < 8) (j : Nat) (hj : j < 9) (i : Nat) (hi : i < 8) (h : (i < i0 ∨ i0 + j ≤ i) ∧ i0 + j ≤ 8) : ci i0 j (i + 1) = ci i0 j i ∧ 2 ^ i - 1 - runq i0 (ci i0 j i) + 2 ^ i = 2 ^ (i + 1) - 1 - runq i0 (ci i0 j (i + 1)) := ci_out' ⟨i0, h0⟩ ⟨j, hj⟩ ⟨i, hi⟩ h
theorem ci_end : ∀ i0, i0 < 8 → ∀ j, j < 9 → i0 + j ≤ 8 → ci i0 j 8 = j := by decide +kernel
def jj (a en l : Int) : Nat := if a % (2:Int)^(l - 3).toNat = 0 then jOf a en l else 0
theorem qOf_wide (a en l : Int) (h : 8 ≤ l) : qOf a en l = runq (i0Of a l) (jj a en l) := by
  unfold qOf jj
  rw [if_neg (by omega)]
  split
  · rfl
  · rw [runq_zero]
theorem jj_le (a en l : Int) (hi : i0Of a l < 8) : i0Of a l + jj a en l ≤ 8 := by
  unfold jj
  split
  · unfold jOf; omega
  · omega
theorem part_in (a en l P N : Int) (hl : 5 ≤ l) (hl2 : l ≤ 14) (hP : (2:Int)^(l - 3).toNat = P) (hN : (2:Int)^l.toNat = N) (ha : 0 ≤ a) (hae : a < en) (hen : en ≤ 262144) (i : Nat) (hi : i < 8) :
    (a ≤ baseOf a l + (i : Int) * P ∧ baseOf a l + (i : Int) * P + P ≤ en ∧ a % P = 0) ↔ (i0Of a l ≤ i ∧ i < i0Of a l + jj a en l) := by
  obtain ⟨g1, g2, g3, g4, g5, g6, g7⟩ := parts a l P N hl hl2 hP hN ha (by omega)
  unfold jj
  rw [hP]
  by_cases hm : a % P = 0
  · rw [if_pos hm]
    have hb : baseOf a l = a - a % N := by unfold baseOf; rw [hN]
    have g6' := g6 hm
    have hd0 : 0 ≤ (en - a) / P := Int.ediv_nonneg (by omega) (by omega)
    have e1 : (a ≤ baseOf a l + (i : Int) * P) ↔ i0Of a l ≤ i := by
      rw [hb, g6']
      constructor
      · intro h
        have : (i0Of a l : Int) * P ≤ (i : Int) * P := by omega
        have := Int.le_of_mul_le_mul_right this (by omega)
        omega
      · intro h
        have : (i0Of a l : Int) * P ≤ (i : Int) * P := Int.mul_le_mul_of_nonneg_right (by omega) (by omega)
        omega
    have e2 : i0Of a l ≤ i → ((baseOf a l + (i : Int) * P + P ≤ en) ↔ ((i - i0Of a l : Nat) : Int) < (en - a) / P) := by
      intro h
      rw [hb, g6']
      have e3 : ((i - i0Of a l : Nat) : Int) = (i : Int) - (i0Of a l : Int) := by omega
      have e4 : (((i : Int) - (i0Of a l : Int)) + 1) * P = (i : Int) * P - (i0Of a l : Int) * P + P := by rw [Int.add_mul, Int.sub_mul]; omega
      rw [e3]
      constructor
      · intro h
        have := Int.le_ediv_of_mul_le (c := P) (a := (i : Int) - (i0Of a l : Int) + 1) (b := en - a) (by omega) (by omega)
        omega
      · intro h
        have : (i : Int) - (i0Of a l : Int) + 1 ≤ (en - a) / P := by omega
        have := Int.mul_le_of_le_ediv (by omega) this
        omega
    have e5 : jOf a en l = min (8 - i0Of a l) ((en - a) / P).toNat := by unfold jOf; rw [hP]
    rw [e5, e1]
    constructor
    · rintro ⟨h1, h2, _⟩
      have := (e2 h1).1 h2
      omega
    · rintro ⟨h1, h2⟩
      exact ⟨h1, (e2 h1).2 (by omega), hm⟩
  · rw [if_neg hm]
    constructor
    · rintro ⟨_, _, h⟩
      exact absurd h hm
    · intro h
      omega
theorem div_mul_base (a N : Int) (h0 : 0 ≤ a) (hN : 0 < N) : a / N * N = a - a % N := by
  have := Int.mul_ediv_add_emod a N
  rw [Int.mul_comm]
  omega
def BePost (w : World) (b l c : Int) (q : Nat) (e : Ending) (w' : World) : Prop :=
  ∃ o : Int, e = .returned (.tuple #[.agg #[.int .i64 b, .int .i64 l, .int .i64 o, .bool false, .bool false, .bool false], .int .i64 c]) ∧ (0 < c → o = 255 - (q : Int)) ∧ Below w.heap.size w w'
theorem be_end (w W : World) (tmps : Array Value) (b l o c : Int) (q : Nat) (h6 : tmps[6]? = some (.pointer (some ⟨w.heap.size, 0, none⟩))) (h7 : tmps[7]? = some (.int .i64 c))
    (hz : Blk W w.heap.size #[.int .i64 b, .int .i64 l, .int .i64 o, .bool false, .bool false, .bool false] 158) (hB : Below w.heap.size w W) (ho : 0 < c → o = 255 - (q : Int)) :
    bodyPost Tryz.prog Tryz.f247 (BePost w b l c q) Exit.ret ⟨tmps, []⟩ W := by
  refine bodyPost_ret (v := .tuple #[.agg #[.int .i64 b, .int .i64 l, .int .i64 o, .bool false, .bool false, .bool false], .int .i64 c]) ?_ rfl ⟨o, rfl, ho, hB⟩
  obtain ⟨p1, p2, p3, p4, p5, p6, p7⟩ := hz.six'
  simp [results, Tryz.results247, go_sem, h6, h7, p1, p2, p3, p4, p5, p6]
theorem be_set {w2 : World} {g : Nat} (hz : Blk w2 g #[.int .i64 0, .int .i64 0, .int .i64 0, .bool false, .bool false, .bool false] 158) (b l o : Int) :
    Blk ((((((w2.setCell ⟨g, 0, none⟩ (.int .i64 b)).setCell ⟨g, 1, none⟩ (.int .i64 l)).setCell ⟨g, 2, none⟩ (.int .i64 o)).setCell ⟨g, 3, none⟩ (.bool false)).setCell ⟨g, 4, none⟩ (.bool false)).setCell ⟨g, 5, none⟩ (.bool false)) g #[.int .i64 b, .int .i64 l, .int .i64 o, .bool false, .bool false, .bool false] 158 :=
  Blk.set (Blk.set (Blk.set (Blk.set (Blk.set (Blk.set hz 0 _) 1 _) 2 _) 3 _) 4 _) 5 _
theorem be_below {B : Nat} {w w2 : World} {g : Nat} (hg : B ≤ g) (h : Below B w w2) (b l o : Int) :
    Below B w ((((((w2.setCell ⟨g, 0, none⟩ (.int .i64 b)).setCell ⟨g, 1, none⟩ (.int .i64 l)).setCell ⟨g, 2, none⟩ (.int .i64 o)).setCell ⟨g, 3, none⟩ (.bool false)).setCell ⟨g, 4, none⟩ (.bool false)).setCell ⟨g, 5, none⟩ (.bool false)) :=
  (((((h.setCell hg _).setCell hg _).setCell hg _).setCell hg _).setCell hg _).setCell hg _
set_option maxHeartbeats 2000000 in
theorem l2Best_narrow (a s l : Int) (w : World) (hl : 5 ≤ l) (hl2 : l < 8) (ha : 0 ≤ a) (hs : 0 < s) (has : a + s ≤ 262144) :
    Calls Tryz.prog 247 #[.int .i64 l, .int .i64 a, .int .i64 s] w (BePost w (baseOf a l) l (cnt l (qOf a (a + s) l)) (qOf a (a + s) l)) := by
  obtain ⟨P, hP⟩ : ∃ P, (2:Int)^(l - 3).toNat = P := ⟨_, rfl⟩
  obtain ⟨N, hN⟩ : ∃ N, (2:Int)^l.toNat = N := ⟨_, rfl⟩
  obtain ⟨g1, g2, g3, g4, g5, g6, g7⟩ := parts a l P N hl (by omega) hP hN ha (by omega)
  obtain ⟨b0, b1, b2, b3, b4⟩ := base_ok a l N hl (by omega) hN ha (by omega)
  have hdm := div_mul_base a N ha (by omega)
  obtain ⟨b, hb⟩ : ∃ b, b = a - a % N := ⟨_, rfl⟩
  have hbo : baseOf a l = b := by unfold baseOf; rw [hN, hb]
  rw [← hb] at b0 b1 b2 hdm
  have HP2 := hide (fun w => l2Power_any l (by omega) (by omega) w)
  rw [hN] at HP2
  have hwf : (Lit.int .i64 b).wf = true := by simp [Lit.wf, IntKind.min, IntKind.max, IntKind.bits, IntKind.signed]; omega
  have HR := hide (fun w => sRegionOk_any b l 0 false false false w hwf)
  have hrok : rok b l 0 = true := by unfold rok; rw [hN]; simp; omega
  rw [hrok] at HR
  rw [hbo]
  have h8 : 8 * P ≤ 1024 := by
    have : l = 5 ∨ l = 6 ∨ l = 7 := by omega
    rcases this with rfl | rfl | rfl <;> (simp at hP; omega)
  have HE := hide (show ∀ c : Bool, (c = true ↔ (a = b ∧ N ≤ s)) → qOf a (a + s) l = (if c then 255 else 0) ∧ cnt l (qOf a (a + s) l) = (if c then N else 0) from by
    intro c hc
    have e : qOf a (a + s) l = (if c then 255 else 0) := by
      unfold qOf
      rw [if_pos hl2, hN]
      cases c
      · rw [if_neg (by simp at hc; omega)]; rfl
      · have := hc.1 rfl
        rw [if_pos (by omega)]; rfl
    refine ⟨e, ?_⟩
    rw [e]
    cases c
    · exact cnt_zero l
    · show cnt l 255 = N
      unfold cnt
      rw [hP, show popc 255 = 8 from rfl, g1]
      rfl)
  have hN1 : N ≤ 1024 := by omega
  have hN0 : 0 < N := by omega
  clear hP hN g1 g2 g3 g4 g5 g6 g7 hrok hbo h8 b2 b3 b4 hb hwf
  go_enter Tryz.func247, Tryz.ntmps247
  go_wp2_with fail
  refine (HP2.out _).mono ?_
  rintro e w1 ⟨rfl, rfl⟩
  go_wp2_with fail
  refine (HR.out _).mono ?_
  rintro e w2 ⟨rfl, hb2⟩
  have kz := ((Blk.new w #[.int .i64 0, .int .i64 0, .int .i64 0, .bool false, .bool false, .bool false] 158).alloc (.cells #[.int .i64 b, .int .i64 l, .int .i64 0, .bool false, .bool false, .bool false] 158)).below hb2
  have kr := (Blk.new (w.alloc (.cells #[.int .i64 0, .int .i64 0, .int .i64 0, .bool false, .bool false, .bool false] 158)) #[.int .i64 b, .int .i64 l, .int .i64 0, .bool false, .bool false, .bool false] 158).below hb2
  simp only [World.size_alloc] at kr
  have HB2 := hide ((((Below.refl w.heap.size w).alloc (Nat.le_refl _) (.cells #[.int .i64 0, .int .i64 0, .int .i64 0, .bool false, .bool false, .bool false] 158)).alloc (by simp) (.cells #[.int .i64 b, .int .i64 l, .int .i64 0, .bool false, .bool false, .bool false] 158)).trans (hb2.mono (by simp; omega)))
  obtain ⟨q1, q2, q3, q4, q5, q6, q7⟩ := kz.six'
  obtain ⟨p1, p2, p3, p4, p5, p6, p7⟩ := kr.six'
  have KZ := hide kz
  clear kz kr hb2
  by_cases hba : b = a
  · subst hba
    by_cases hNs : s < N
    · obtain ⟨x1, x2⟩ := HE.out false (by simp; omega)
      have X := hide (And.intro x1 x2)
      clear x1 x2 HE
      go_wp2_with fail
      rw [X.out.2, X.out.1]
      exact be_end w _ _ b l 0 0 0 rfl rfl (be_set KZ.out b l 0) (be_below (Nat.le_refl _) HB2.out b l 0) (fun h => absurd h (by omega))
    · obtain ⟨x1, x2⟩ := HE.out true (by simp; omega)
      have X := hide (And.intro x1 x2)
      clear x1 x2 HE
      go_wp2_with fail
      rw [X.out.2, X.out.1]
      exact be_end w _ _ b l 0 N 255 rfl rfl (be_set KZ.out b l 0) (be_below (Nat.le_refl _) HB2.out b l 0) (fun _ => rfl)
  · obtain ⟨x1, x2⟩ := HE.out false (by simp; omega)
    have X := hide (And.intro x1 x2)
    have hba' : (b != a) = true := by simpa using hba
    clear x1 x2 HE hba
    go_wp2_with fail
    rw [X.out.2, X.out.1]
    exact be_end w _ _ b l 0 0 0 rfl rfl (be_set KZ.out b l 0) (be_below (Nat.le_refl _) HB2.out b l 0) (fun h => absurd h (by omega))
end Go.Proofs.YtngdgogjlpjjpaeGreat
namespace Go.Proofs.YtngdgogjlpjjpaeGreat
open Go.RowKit Classical
set_option linter.unusedVariables false
set_option linter.unusedSimpArgs false
set_option maxRecDepth 100000
def rgt (r x y : Bool) (g : Rg) : Rg := (g.1, g.2.1, g.2.2.1, r, x, y)
def rts (r x y : Bool) (L : List Rg) : List Rg := L.map (rgt r x y)
theorem rts_len (r x y : Bool) (L : List Rg) : (rts r x y L).length = L.length := by simp [rts]
theorem rts_step (r x y : Bool) (L : List Rg) (k : Nat) (h : k < L.length) : (rts r x y L).take (k + 1) = (rts r x y L).take k ++ [rgt r x y (L.getD k z6)] := by
  rw [List.take_add_one]
  congr 1
  simp [rts, List.getD_eq_getElem?_getD, h]
theorem cvList_len : ∀ (n : Nat) (en a : Int), (cvList en n a).length ≤ n
  | 0, en, a => by simp [cvList]
  | n + 1, en, a => by
    unfold cvList
    split
    · unfold cvTurn
      split
      · have := cvList_len n en
        simp only [List.length_cons]
        exact Nat.succ_le_succ (this _)
      · simp
    · simp
theorem cvL_len (f s : Int) : (cvL f s).length ≤ 8192 := by
  unfold cvL
  split
  · rename_i h
    unfold cvAll
    unfold cvOk grn at h
    simp at h
    have := cvList_len (s / 32).toNat (f + s) f
    omega
  · simp
end Go.Proofs.YtngdgogjlpjjpaeGreat
namespace Go.Proofs.YtngdgogjlpjjpaeGreat
open Go.RowKit Classical
set_option linter.unusedVariables false
theorem cell_other {w : World} {g o o' b : Nat} {v : Value} (h : b ≠ g ∨ o' ≠ o) : (w.setCell ⟨g, o, none⟩ v).cell? ⟨b, o', none⟩ = w.cell? ⟨b, o', none⟩ :=
  World.cell?_setCell_other _ _ _ _ (by intro e; injection e; rcases h with h | h <;> simp_all)
theorem cell_same {w : World} {g o : Nat} {u v : Value} (h : w.cell? ⟨g, o, none⟩ = some u) : (w.setCell ⟨g, o, none⟩ v).cell? ⟨g, o, none⟩ = some v := World.cell?_setCell_same _ _ _ h
def RowW (w : World) (g : Nat) (rs : List Rg) : Prop :=
  (∃ cur, Blk w g cur 158) ∧ ∀ i, i < rs.length → At6 w g (i * 6) (rs.getD i z6)
theorem RowW.frozen {w : World} {g : Nat} {rs : List Rg} (h : RowW w g rs) (i : Nat) : w.frozen? ⟨g, i, none⟩ = false := by obtain ⟨⟨cur, hb⟩, _⟩ := h; exact hb.frozen i
theorem or_roww {w : World} {base n cap g : Nat} {rs : List Rg} (h : ORg w base (.slice (some ⟨g, 0, none⟩) n cap) rs) (hn : n ≠ 0) : RowW w g rs := by
  have hr := or_rs h
  have hl := hr.1
  obtain ⟨_, ⟨h0, h0'⟩ | ⟨g', cap', cur, hv, hg, hh, h1, h2, h3, h4⟩⟩ := h.1
  · simp at h0
  · simp at hv
    obtain ⟨rfl, _⟩ := hv
    exact ⟨⟨cur, hh⟩, fun i hi => by have := hr.at i (by omega); rw [Nat.zero_add] at this; exact this⟩
theorem turn_or' {S : Nat → Prop} {base : Nat} {w w' : World} {v : Value} {rs : List Rg} (t : Turn S w w') (h : ORg w base v rs) (hk : ∀ k, v.ownBlock = some k → ¬ S k) : ORg w' base v rs := by
  refine ⟨?_, h.2⟩
  obtain ⟨hl, h0 | ⟨g', cap, cur, rfl, hg, hh, h1, h2, h3, h4⟩⟩ := h.1
  · exact ⟨hl, .inl h0⟩
  · exact ⟨hl, .inr ⟨g', cap, cur, rfl, hg, turn_blk t hh (hk g' rfl), h1, h2, h3, h4⟩⟩
theorem or_lt {base : Nat} {w : World} {v : Value} {rs : List Rg} (h : ORg w base v rs) (k : Nat) (hk : v.ownBlock = some k) : k < w.heap.size := by
  obtain ⟨hl, ⟨rfl, h0⟩ | ⟨g', cap, cur, rfl, hg, hh, h1, h2, h3, h4⟩⟩ := h.1
  · cases hk
  · have e : some g' = some k := hk
    injection e with e
    subst e
    exact Blk.lt (w := w) hh
end Go.Proofs.YtngdgogjlpjjpaeGreat
