import Derived.Deep.Slices
import Derived.ChangeMaps5
import Derived.Test.YtngdgogjlpjjpaeGreatP00
import Derived.Test.YtngdgogjlpjjpaeGreatP01
import Derived.Test.YtngdgogjlpjjpaeGreatP06
import Derived.Test.YtngdgogjlpjjpaeGreatP08
import Derived.Test.YtngdgogjlpjjpaeGreatP14
import Derived.Test.YtngdgogjlpjjpaeGreatP16
import Derived.Test.YtngdgogjlpjjpaeGreatP46
namespace Go.Proofs.YtngdgogjlpjjpaeGreat
open Go.RowKit Classical
set_option linter.unusedVariables false
set_option linter.unusedSimpArgs false
set_option maxRecDepth 100000
def Mn.cp (M : Mn) (g0 g1 g2 g3 g4 g5 g6 : Nat) (ms' : List Md) : Mn := { M with ma := some ⟨g0, 0, none⟩, mc := M.mn, ms := ms', ka := some ⟨g1, 0, none⟩, kc := M.kn, fa := some ⟨g2, 0, none⟩, fc := M.fn, ra := some ⟨g3, 0, none⟩, rc := M.rn, oa := some ⟨g4, 0, none⟩, oc := M.on, la := some ⟨g5, 0, none⟩, lc := M.ln, ha := some ⟨g6, 0, none⟩, hc := M.hn }
structure MnR (w : World) (base : Nat) (M : Mn) (g0 g1 g2 g3 g4 g5 g6 : Nat) (ms' : List Md) : Prop where
  b : base ≤ g0 ∧ g0 < g1 ∧ g1 < g2 ∧ g2 < g3 ∧ g3 < g4 ∧ g4 < g5 ∧ g5 < g6
  n : ms'.length = M.mn
  m : RowM w g0 M.mn M.ms ms'
  x : ∃ W, RowM W g0 M.mn M.ms ms' ∧ W.heap.size ≤ g1
  k : RowI w g1 M.kz
  f : Row8 w g2 M.fz
  r : Row8 w g3 M.rz
  o : Row8 w g4 M.oz
  l : OG 134 4 clSl w base (.slice (some ⟨g5, 0, none⟩) M.ln M.ln) M.lz
  h : OG 136 4 clFr w base (.slice (some ⟨g6, 0, none⟩) M.hn M.hn) M.hz
theorem MnR.below {w w' : World} {base : Nat} {M : Mn} {g0 g1 g2 g3 g4 g5 g6 : Nat} {ms' : List Md} (h : MnR w base M g0 g1 g2 g3 g4 g5 g6 ms') (hb : Below w.heap.size w w') : MnR w' base M g0 g1 g2 g3 g4 g5 g6 ms' := ⟨h.b, h.n, h.m.below hb, h.x, h.k.below hb, h.f.below hb, h.r.below hb, h.o.below hb, h.l.below hb, h.h.below hb⟩
theorem MnR.mnd {w W : World} {base : Nat} {M : Mn} {g0 g1 g2 g3 g4 g5 g6 : Nat} {ms' : List Md} (h : MnR W base M g0 g1 g2 g3 g4 g5 g6 ms') (t : MnT w M) (b : MnB M) : MnD W (M.cp g0 g1 g2 g3 g4 g5 g6 ms') where
  m := rowm_msd h.m h.n t.m b.m
  k := h.k.is (by have := t.k.1; have := t.k.2.1; omega) t.k.2.2.1 _ _ t.k.1
  f := h.f.bs (by have := t.f.1; have := t.f.2.1; omega) t.f.2.2.1 _ _ t.f.1
  r := h.r.bs (by have := t.r.1; have := t.r.2.1; omega) t.r.2.2.1 _ _ t.r.1
  o := h.o.bs (by have := t.o.1; have := t.o.2.1; omega) t.o.2.2.1 _ _ t.o.1
  l := og_qs clSl_len h.l
  h := og_qs clFr_len h.h
theorem stab_og {α : Type} {t : TypeId} {sz : Nat} {f : α → List Value} {c b g n m : Nat} {xs : List α} (h : c < g) : Stab c (fun W => OG t sz f W b (.slice (some ⟨g, 0, none⟩) n m) xs) := fun W W' T r => OG.kept r T (fun k hk => by simp [Value.ownBlock] at hk; show ¬ k ≤ c; omega)
theorem stab_rm {c g n : Nat} {ms ms' : List Md} (h : c < g) : Stab c (fun W => RowM W g n ms ms') := fun W W' T r => by
  obtain ⟨⟨cur, hc, hs⟩, hq, hr⟩ := r
  have T' : Turn (fun j => j ≤ g) W W' := T.mono (fun j hj => by show j ≤ g; have : j ≤ c := hj; omega)
  have kb := turn_blk T hc (by show ¬ g ≤ c; omega)
  have key : ∀ o v, W.cell? ⟨g, o, none⟩ = some v → W'.cell? ⟨g, o, none⟩ = some v := fun o v hv => by rw [kb.cell, ← hc.cell]; exact hv
  have at8 : ∀ o q, At8 W g o q → At8 W' g o q := fun o q h => by
    obtain ⟨h0, h1, h2, h3, h4, h5, h6, h7⟩ := h
    exact ⟨key _ _ h0, key _ _ h1, key _ _ h2, key _ _ h3, key _ _ h4, key _ _ h5, key _ _ h6, key _ _ h7⟩
  exact ⟨⟨cur, kb, hs⟩, fun i hi => by obtain ⟨q, h⟩ := hq i hi; exact ⟨q, at8 _ _ h⟩, fun i hi => ⟨at8 _ _ (hr i hi).1, copy_stab _ _ _ _ _ T' (hr i hi).2⟩⟩
structure TQ (w W : World) (arg cr cs : Array Value) (t1 t2 : TypeId) (R : World → Prop) : Prop where
  kb : Blk W w.heap.size arg t1
  kr : Blk W (w.heap.size + 1) cr t2
  ko : Blk W (w.heap.size + 1 + 1) cs t2
  hB : Below w.heap.size w W
  rows : R W
  st : Stab (w.heap.size + 1 + 1) R
theorem TQ.below {w W W' : World} {arg cr cs : Array Value} {t1 t2 : TypeId} {R : World → Prop} (h : TQ w W arg cr cs t1 t2 R) (hb : Below W.heap.size W W') : TQ w W' arg cr cs t1 t2 R :=
  ⟨h.kb.below hb, h.kr.below hb, h.ko.below hb, h.hB.trans (hb.mono h.hB.size), h.st _ _ (turn_below hb) h.rows, h.st⟩
theorem TQ.set {w W : World} {arg cr cs : Array Value} {t1 t2 : TypeId} {R : World → Prop} (h : TQ w W arg cr cs t1 t2 R) (i : Nat) (v : Value) : TQ w (W.setCell ⟨w.heap.size + 1 + 1, i, none⟩ v) arg cr (cs.setIfInBounds i v) t1 t2 R :=
  ⟨h.kb.other _ _ (by dsimp only; omega), h.kr.other _ _ (by dsimp only; omega), h.ko.set i v, h.hB.setCell (by dsimp only; omega) _, h.st _ _ (turn_at _ _ _ _ _ (Nat.le_refl _)) h.rows, h.st⟩
theorem TQ.setr {w W : World} {arg cr cs : Array Value} {t1 t2 : TypeId} {R : World → Prop} (h : TQ w W arg cr cs t1 t2 R) (i : Nat) (v : Value) : TQ w (W.setCell ⟨w.heap.size + 1, i, none⟩ v) arg (cr.setIfInBounds i v) cs t1 t2 R :=
  ⟨h.kb.other _ _ (by dsimp only; omega), h.kr.set i v, h.ko.other _ _ (by dsimp only; omega), h.hB.setCell (by dsimp only; omega) _, h.st _ _ (turn_at _ _ _ _ _ (by omega)) h.rows, h.st⟩
theorem TQ.add {w W : World} {arg cr cs : Array Value} {t1 t2 : TypeId} {R S : World → Prop} (h : TQ w W arg cr cs t1 t2 R) (r : S W) (s : Stab (w.heap.size + 1 + 1) S) : TQ w W arg cr cs t1 t2 (fun W => R W ∧ S W) :=
  ⟨h.kb, h.kr, h.ko, h.hB, ⟨h.rows, r⟩, h.st.and s⟩
def ToMn (w : World) (M : Mn) (e : Ending) (w' : World) : Prop := ∃ g0 g1 g2 g3 g4 g5 g6 ms', e = .returned (.agg #[.slice (some ⟨g0, 0, none⟩) M.mn M.mn, .int .i64 M.cs, .int .i64 M.cw, .int .i64 M.ck, .int .i64 M.cd, .int .i64 M.pc, .slice (some ⟨g1, 0, none⟩) M.kn M.kn, .slice (some ⟨g2, 0, none⟩) M.fn M.fn, .slice (some ⟨g3, 0, none⟩) M.rn M.rn, .slice (some ⟨g4, 0, none⟩) M.on M.on, .int .i64 M.md, .int .i64 M.bk, .slice (some ⟨g5, 0, none⟩) M.ln M.ln, .slice (some ⟨g6, 0, none⟩) M.hn M.hn, .int .i64 M.tn]) ∧ MnR w' w.heap.size M g0 g1 g2 g3 g4 g5 g6 ms' ∧ Below w.heap.size w w'
set_option maxHeartbeats 16000000 in
theorem toMachine_any (M : Mn) (w : World) (h : MnT w M) (b : MnB M) : Calls Tryz.prog 45 #[.agg #[.slice M.ma M.mn M.mc, .int .i64 M.cs, .int .i64 M.cw, .int .i64 M.ck, .int .i64 M.cd, .int .i64 M.pc, .slice M.ka M.kn M.kc, .slice M.fa M.fn M.fc, .slice M.ra M.rn M.rc, .slice M.oa M.on M.oc, .int .i64 M.md, .int .i64 M.bk, .slice M.la M.ln M.lc, .slice M.ha M.hn M.hc, .int .i64 M.tn]] w (ToMn w M) := by
  have M0 : TQ w (((w.alloc (.cells #[.slice M.ma M.mn M.mc, .int .i64 M.cs, .int .i64 M.cw, .int .i64 M.ck, .int .i64 M.cd, .int .i64 M.pc, .slice M.ka M.kn M.kc, .slice M.fa M.fn M.fc, .slice M.ra M.rn M.rc, .slice M.oa M.on M.oc, .int .i64 M.md, .int .i64 M.bk, .slice M.la M.ln M.lc, .slice M.ha M.hn M.hc, .int .i64 M.tn] 88)).alloc (.cells #[.slice none 0 0, .int .i64 0, .int .i64 0, .int .i64 0, .int .i64 0, .int .i64 0, .slice none 0 0, .slice none 0 0, .slice none 0 0, .slice none 0 0, .int .i64 0, .int .i64 0, .slice none 0 0, .slice none 0 0, .int .i64 0] 54)).alloc (.cells #[.slice none 0 0, .int .i64 0, .int .i64 0, .int .i64 0, .int .i64 0, .int .i64 0, .slice none 0 0, .slice none 0 0, .slice none 0 0, .slice none 0 0, .int .i64 0, .int .i64 0, .slice none 0 0, .slice none 0 0, .int .i64 0] 54)) #[.slice M.ma M.mn M.mc, .int .i64 M.cs, .int .i64 M.cw, .int .i64 M.ck, .int .i64 M.cd, .int .i64 M.pc, .slice M.ka M.kn M.kc, .slice M.fa M.fn M.fc, .slice M.ra M.rn M.rc, .slice M.oa M.on M.oc, .int .i64 M.md, .int .i64 M.bk, .slice M.la M.ln M.lc, .slice M.ha M.hn M.hc, .int .i64 M.tn] #[.slice none 0 0, .int .i64 0, .int .i64 0, .int .i64 0, .int .i64 0, .int .i64 0, .slice none 0 0, .slice none 0 0, .slice none 0 0, .slice none 0 0, .int .i64 0, .int .i64 0, .slice none 0 0, .slice none 0 0, .int .i64 0] #[.slice none 0 0, .int .i64 0, .int .i64 0, .int .i64 0, .int .i64 0, .int .i64 0, .slice none 0 0, .slice none 0 0, .slice none 0 0, .slice none 0 0, .int .i64 0, .int .i64 0, .slice none 0 0, .slice none 0 0, .int .i64 0] 88 54 (fun _ => True) :=
    ⟨((Blk.new w _ _).alloc _).alloc _, by have := (Blk.new (w.alloc (.cells #[.slice M.ma M.mn M.mc, .int .i64 M.cs, .int .i64 M.cw, .int .i64 M.ck, .int .i64 M.cd, .int .i64 M.pc, .slice M.ka M.kn M.kc, .slice M.fa M.fn M.fc, .slice M.ra M.rn M.rc, .slice M.oa M.on M.oc, .int .i64 M.md, .int .i64 M.bk, .slice M.la M.ln M.lc, .slice M.ha M.hn M.hc, .int .i64 M.tn] 88)) #[.slice none 0 0, .int .i64 0, .int .i64 0, .int .i64 0, .int .i64 0, .int .i64 0, .slice none 0 0, .slice none 0 0, .slice none 0 0, .slice none 0 0, .int .i64 0, .int .i64 0, .slice none 0 0, .slice none 0 0, .int .i64 0] 54).alloc (.cells #[.slice none 0 0, .int .i64 0, .int .i64 0, .int .i64 0, .int .i64 0, .int .i64 0, .slice none 0 0, .slice none 0 0, .slice none 0 0, .slice none 0 0, .int .i64 0, .int .i64 0, .slice none 0 0, .slice none 0 0, .int .i64 0] 54); simpa using this, by have := Blk.new ((w.alloc (.cells #[.slice M.ma M.mn M.mc, .int .i64 M.cs, .int .i64 M.cw, .int .i64 M.ck, .int .i64 M.cd, .int .i64 M.pc, .slice M.ka M.kn M.kc, .slice M.fa M.fn M.fc, .slice M.ra M.rn M.rc, .slice M.oa M.on M.oc, .int .i64 M.md, .int .i64 M.bk, .slice M.la M.ln M.lc, .slice M.ha M.hn M.hc, .int .i64 M.tn] 88)).alloc (.cells #[.slice none 0 0, .int .i64 0, .int .i64 0, .int .i64 0, .int .i64 0, .int .i64 0, .slice none 0 0, .slice none 0 0, .slice none 0 0, .slice none 0 0, .int .i64 0, .int .i64 0, .slice none 0 0, .slice none 0 0, .int .i64 0] 54)) #[.slice none 0 0, .int .i64 0, .int .i64 0, .int .i64 0, .int .i64 0, .int .i64 0, .slice none 0 0, .slice none 0 0, .slice none 0 0, .slice none 0 0, .int .i64 0, .int .i64 0, .slice none 0 0, .slice none 0 0, .int .i64 0] 54; simpa using this,
      (((Below.refl _ _).alloc (Nat.le_refl _) _).alloc (by simp) _).alloc (by simp; omega) _, trivial, fun _ _ _ _ => trivial⟩
  have MX := hide h
  have MB := hide b
  clear h b
  go_enter Tryz.func45, Tryz.ntmps45
  go_wp2_with fail
  refine (toModuleS_any M.ma M.mn M.mc M.ms _ (MX.out.m.below M0.hB) MB.out.n MB.out.m).mono ?_
  rintro e w1 ⟨rfl, ⟨ms', hl, hr⟩, hb1⟩
  simp only [World.size_alloc] at hr
  have z1 : w.heap.size + 1 + 1 + 1 < w1.heap.size := by obtain ⟨⟨cur, hc, _⟩, _⟩ := hr; exact hc.lt
  have HXW := hide (show ∃ W, RowM W (w.heap.size + 1 + 1 + 1) M.mn M.ms ms' ∧ W.heap.size ≤ w1.heap.size from ⟨w1, hr, Nat.le_refl _⟩)
  have M1 := (M0.below hb1).add hr (stab_rm (Nat.lt_succ_self _))
  clear M0 hb1 hr
  have o0 : w1.cell? ⟨w.heap.size + 1 + 1, 0, none⟩ = some (.slice none 0 0) := M1.ko.cell 0
  have of := M1.ko.frozen
  have q1 : w1.cell? ⟨w.heap.size, 1, none⟩ = some (.int .i64 M.cs) := M1.kb.cell 1
  have q2 : w1.cell? ⟨w.heap.size, 2, none⟩ = some (.int .i64 M.cw) := M1.kb.cell 2
  have q3 : w1.cell? ⟨w.heap.size, 3, none⟩ = some (.int .i64 M.ck) := M1.kb.cell 3
  have q4 : w1.cell? ⟨w.heap.size, 4, none⟩ = some (.int .i64 M.cd) := M1.kb.cell 4
  have M1a := (M1.set 0 (.slice (some ⟨w.heap.size + 1 + 1 + 1, 0, none⟩) M.mn M.mn))
  simp only [List.setIfInBounds_toArray, List.set_cons_zero, List.set_cons_succ] at M1a
  clear M1
  have HM := hide M1a
  have r1 := M1a.kb.cell 1
  have r2 := M1a.kb.cell 2
  have r3 := M1a.kb.cell 3
  have r4 := M1a.kb.cell 4
  go_wp2_with fail
  refine (toConfig_any M.cs M.cw M.ck M.cd _).mono ?_
  rintro e w2 ⟨rfl, hb2⟩
  have M2 := M1a.below hb2
  have z2 : w1.heap.size ≤ w2.heap.size := by have := hb2.size; simpa using this
  clear HM o0 of q1 q2 q3 q4 r1 r2 r3 r4 M1a hb2
  have o1 : w2.cell? ⟨w.heap.size + 1 + 1, 1, none⟩ = some (.int .i64 0) := M2.ko.cell 1
  have o2 : w2.cell? ⟨w.heap.size + 1 + 1, 2, none⟩ = some (.int .i64 0) := M2.ko.cell 2
  have o3 : w2.cell? ⟨w.heap.size + 1 + 1, 3, none⟩ = some (.int .i64 0) := M2.ko.cell 3
  have o4 : w2.cell? ⟨w.heap.size + 1 + 1, 4, none⟩ = some (.int .i64 0) := M2.ko.cell 4
  have of := M2.ko.frozen
  have q5 : w2.cell? ⟨w.heap.size, 5, none⟩ = some (.int .i64 M.pc) := M2.kb.cell 5
  have q6 : w2.cell? ⟨w.heap.size, 6, none⟩ = some (.slice M.ka M.kn M.kc) := M2.kb.cell 6
  have M2a := ((((M2.set 1 (.int .i64 M.cs)).set 2 (.int .i64 M.cw)).set 3 (.int .i64 M.ck)).set 4 (.int .i64 M.cd))
  simp only [List.setIfInBounds_toArray, List.set_cons_zero, List.set_cons_succ] at M2a
  clear M2
  have HM := hide M2a
  have r5 := M2a.kb.cell 5
  have r6 := M2a.kb.cell 6
  go_wp2_with fail
  refine (toCore_any M.pc M.ka M.kn M.kc M.kz _ (MX.out.k.below M2a.hB) MB.out.k).mono ?_
  rintro e w3 ⟨g1, hg1, rfl, hr3, hb3⟩
  have z3 : w2.heap.size ≤ g1 ∧ g1 < w3.heap.size := ⟨by simpa using hg1, hr3.lt⟩
  have M3 := (M2a.below hb3).add hr3 (stab_i (by omega))
  clear HM o1 o2 o3 o4 of q5 q6 r5 r6 M2a hb3 hg1 hr3
  have o5 : w3.cell? ⟨w.heap.size + 1 + 1, 5, none⟩ = some (.int .i64 0) := M3.ko.cell 5
  have o6 : w3.cell? ⟨w.heap.size + 1 + 1, 6, none⟩ = some (.slice none 0 0) := M3.ko.cell 6
  have of := M3.ko.frozen
  have q7 : w3.cell? ⟨w.heap.size, 7, none⟩ = some (.slice M.fa M.fn M.fc) := M3.kb.cell 7
  have q8 : w3.cell? ⟨w.heap.size, 8, none⟩ = some (.slice M.ra M.rn M.rc) := M3.kb.cell 8
  have q9 : w3.cell? ⟨w.heap.size, 9, none⟩ = some (.slice M.oa M.on M.oc) := M3.kb.cell 9
  have M3a := ((M3.set 5 (.int .i64 M.pc)).set 6 (.slice (some ⟨g1, 0, none⟩) M.kn M.kn))
  simp only [List.setIfInBounds_toArray, List.set_cons_zero, List.set_cons_succ] at M3a
  clear M3
  have HM := hide M3a
  have r7 := M3a.kb.cell 7
  have r8 := M3a.kb.cell 8
  have r9 := M3a.kb.cell 9
  go_wp2_with fail
  refine (toMem_any M.fa M.ra M.oa M.fn M.fc M.rn M.rc M.on M.oc M.fz M.rz M.oz _ (MX.out.f.below M3a.hB) (MX.out.r.below M3a.hB) (MX.out.o.below M3a.hB) MB.out.b).mono ?_
  rintro e w4 ⟨g2, g3, g4, rfl, hg2, hg3, hg4, hf4, hr4, ho4, hb4⟩
  have z4 : w3.heap.size ≤ g2 ∧ g4 < w4.heap.size := ⟨by simpa using hg2, ho4.lt⟩
  have M4 := (((M3a.below hb4).add hf4 (stab_8 (by omega))).add hr4 (stab_8 (by omega))).add ho4 (stab_8 (by omega))
  clear HM o5 o6 of q7 q8 q9 r7 r8 r9 M3a hb4 hg2 hf4 hr4 ho4
  have o7 : w4.cell? ⟨w.heap.size + 1 + 1, 7, none⟩ = some (.slice none 0 0) := M4.ko.cell 7
  have o8 : w4.cell? ⟨w.heap.size + 1 + 1, 8, none⟩ = some (.slice none 0 0) := M4.ko.cell 8
  have o9 : w4.cell? ⟨w.heap.size + 1 + 1, 9, none⟩ = some (.slice none 0 0) := M4.ko.cell 9
  have o10 : w4.cell? ⟨w.heap.size + 1 + 1, 10, none⟩ = some (.int .i64 0) := M4.ko.cell 10
  have o11 : w4.cell? ⟨w.heap.size + 1 + 1, 11, none⟩ = some (.int .i64 0) := M4.ko.cell 11
  have of := M4.ko.frozen
  have q10 : w4.cell? ⟨w.heap.size, 10, none⟩ = some (.int .i64 M.md) := M4.kb.cell 10
  have q11 : w4.cell? ⟨w.heap.size, 11, none⟩ = some (.int .i64 M.bk) := M4.kb.cell 11
  have q12 : w4.cell? ⟨w.heap.size, 12, none⟩ = some (.slice M.la M.ln M.lc) := M4.kb.cell 12
  have M4a := (((((M4.set 7 (.slice (some ⟨g2, 0, none⟩) M.fn M.fn)).set 8 (.slice (some ⟨g3, 0, none⟩) M.rn M.rn)).set 9 (.slice (some ⟨g4, 0, none⟩) M.on M.on)).set 10 (.int .i64 M.md)).set 11 (.int .i64 M.bk))
  simp only [List.setIfInBounds_toArray, List.set_cons_zero, List.set_cons_succ] at M4a
  clear M4
  have HM := hide M4a
  have r10 := M4a.kb.cell 10
  have r11 := M4a.kb.cell 11
  have r12 := M4a.kb.cell 12
  go_wp2_with fail
  refine (toSlotS_any M.la M.ln M.lc M.lz _ (MX.out.l.below M4a.hB) MB.out.l).mono ?_
  rintro e w5 ⟨rfl, hl5, hb5⟩
  simp only [size_setCell] at hl5
  have z5 : w4.heap.size < w5.heap.size := (hl5.lt _ rfl).2
  have M5 := (M4a.below hb5).add hl5 (stab_og (by omega))
  clear HM o7 o8 o9 o10 o11 of q10 q11 q12 r10 r11 r12 M4a hb5 hl5
  have o12 : w5.cell? ⟨w.heap.size + 1 + 1, 12, none⟩ = some (.slice none 0 0) := M5.ko.cell 12
  have of := M5.ko.frozen
  have q13 : w5.cell? ⟨w.heap.size, 13, none⟩ = some (.slice M.ha M.hn M.hc) := M5.kb.cell 13
  have M5a := (M5.set 12 (.slice (some ⟨w4.heap.size, 0, none⟩) M.ln M.ln))
  simp only [List.setIfInBounds_toArray, List.set_cons_zero, List.set_cons_succ] at M5a
  clear M5
  have HM := hide M5a
  have r13 := M5a.kb.cell 13
  go_wp2_with fail
  refine (toFrameS_any M.ha M.hn M.hc M.hz _ (MX.out.h.below M5a.hB) MB.out.h).mono ?_
  rintro e w6 ⟨rfl, hl6, hb6⟩
  simp only [size_setCell] at hl6
  have z6 : w5.heap.size < w6.heap.size := (hl6.lt _ rfl).2
  have M6 := (M5a.below hb6).add hl6 (stab_og (by omega))
  clear HM o12 of q13 r13 M5a hb6 hl6
  have o13 : w6.cell? ⟨w.heap.size + 1 + 1, 13, none⟩ = some (.slice none 0 0) := M6.ko.cell 13
  have o14 : w6.cell? ⟨w.heap.size + 1 + 1, 14, none⟩ = some (.int .i64 0) := M6.ko.cell 14
  have of := M6.ko.frozen
  have q14 : w6.cell? ⟨w.heap.size, 14, none⟩ = some (.int .i64 M.tn) := M6.kb.cell 14
  have t0 : w6.cell? ⟨w.heap.size + 1 + 1, 0, none⟩ = some (.slice (some ⟨w.heap.size + 1 + 1 + 1, 0, none⟩) M.mn M.mn) := M6.ko.cell 0
  have t1 : w6.cell? ⟨w.heap.size + 1 + 1, 1, none⟩ = some (.int .i64 M.cs) := M6.ko.cell 1
  have t2 : w6.cell? ⟨w.heap.size + 1 + 1, 2, none⟩ = some (.int .i64 M.cw) := M6.ko.cell 2
  have t3 : w6.cell? ⟨w.heap.size + 1 + 1, 3, none⟩ = some (.int .i64 M.ck) := M6.ko.cell 3
  have t4 : w6.cell? ⟨w.heap.size + 1 + 1, 4, none⟩ = some (.int .i64 M.cd) := M6.ko.cell 4
  have t5 : w6.cell? ⟨w.heap.size + 1 + 1, 5, none⟩ = some (.int .i64 M.pc) := M6.ko.cell 5
  have t6 : w6.cell? ⟨w.heap.size + 1 + 1, 6, none⟩ = some (.slice (some ⟨g1, 0, none⟩) M.kn M.kn) := M6.ko.cell 6
  have t7 : w6.cell? ⟨w.heap.size + 1 + 1, 7, none⟩ = some (.slice (some ⟨g2, 0, none⟩) M.fn M.fn) := M6.ko.cell 7
  have t8 : w6.cell? ⟨w.heap.size + 1 + 1, 8, none⟩ = some (.slice (some ⟨g3, 0, none⟩) M.rn M.rn) := M6.ko.cell 8
  have t9 : w6.cell? ⟨w.heap.size + 1 + 1, 9, none⟩ = some (.slice (some ⟨g4, 0, none⟩) M.on M.on) := M6.ko.cell 9
  have t10 : w6.cell? ⟨w.heap.size + 1 + 1, 10, none⟩ = some (.int .i64 M.md) := M6.ko.cell 10
  have t11 : w6.cell? ⟨w.heap.size + 1 + 1, 11, none⟩ = some (.int .i64 M.bk) := M6.ko.cell 11
  have t12 : w6.cell? ⟨w.heap.size + 1 + 1, 12, none⟩ = some (.slice (some ⟨w4.heap.size, 0, none⟩) M.ln M.ln) := M6.ko.cell 12
  have p0 : w6.cell? ⟨w.heap.size + 1, 0, none⟩ = some (.slice none 0 0) := M6.kr.cell 0
  have p1 : w6.cell? ⟨w.heap.size + 1, 1, none⟩ = some (.int .i64 0) := M6.kr.cell 1
  have p2 : w6.cell? ⟨w.heap.size + 1, 2, none⟩ = some (.int .i64 0) := M6.kr.cell 2
  have p3 : w6.cell? ⟨w.heap.size + 1, 3, none⟩ = some (.int .i64 0) := M6.kr.cell 3
  have p4 : w6.cell? ⟨w.heap.size + 1, 4, none⟩ = some (.int .i64 0) := M6.kr.cell 4
  have p5 : w6.cell? ⟨w.heap.size + 1, 5, none⟩ = some (.int .i64 0) := M6.kr.cell 5
  have p6 : w6.cell? ⟨w.heap.size + 1, 6, none⟩ = some (.slice none 0 0) := M6.kr.cell 6
  have p7 : w6.cell? ⟨w.heap.size + 1, 7, none⟩ = some (.slice none 0 0) := M6.kr.cell 7
  have p8 : w6.cell? ⟨w.heap.size + 1, 8, none⟩ = some (.slice none 0 0) := M6.kr.cell 8
  have p9 : w6.cell? ⟨w.heap.size + 1, 9, none⟩ = some (.slice none 0 0) := M6.kr.cell 9
  have p10 : w6.cell? ⟨w.heap.size + 1, 10, none⟩ = some (.int .i64 0) := M6.kr.cell 10
  have p11 : w6.cell? ⟨w.heap.size + 1, 11, none⟩ = some (.int .i64 0) := M6.kr.cell 11
  have p12 : w6.cell? ⟨w.heap.size + 1, 12, none⟩ = some (.slice none 0 0) := M6.kr.cell 12
  have p13 : w6.cell? ⟨w.heap.size + 1, 13, none⟩ = some (.slice none 0 0) := M6.kr.cell 13
  have p14 : w6.cell? ⟨w.heap.size + 1, 14, none⟩ = some (.int .i64 0) := M6.kr.cell 14
  have pf := M6.kr.frozen
  have M7 := (((((((((((((((((M6.set 13 (.slice (some ⟨w5.heap.size, 0, none⟩) M.hn M.hn)).set 14 (.int .i64 M.tn)).setr 0 (.slice (some ⟨w.heap.size + 1 + 1 + 1, 0, none⟩) M.mn M.mn)).setr 1 (.int .i64 M.cs)).setr 2 (.int .i64 M.cw)).setr 3 (.int .i64 M.ck)).setr 4 (.int .i64 M.cd)).setr 5 (.int .i64 M.pc)).setr 6 (.slice (some ⟨g1, 0, none⟩) M.kn M.kn)).setr 7 (.slice (some ⟨g2, 0, none⟩) M.fn M.fn)).setr 8 (.slice (some ⟨g3, 0, none⟩) M.rn M.rn)).setr 9 (.slice (some ⟨g4, 0, none⟩) M.on M.on)).setr 10 (.int .i64 M.md)).setr 11 (.int .i64 M.bk)).setr 12 (.slice (some ⟨w4.heap.size, 0, none⟩) M.ln M.ln)).setr 13 (.slice (some ⟨w5.heap.size, 0, none⟩) M.hn M.hn)).setr 14 (.int .i64 M.tn))
  have HZ := hide (And.intro z1 (And.intro z2 (And.intro z3 (And.intro z4 (And.intro z5 (And.intro z6 (And.intro hg3 hg4)))))))
  have H7 := hide M7
  have HL := hide hl
  clear M6 M7 z1 z2 z3 z4 z5 z6 hg3 hg4 hl
  go_wp2
  refine bodyPost_ret (v := .agg #[.slice (some ⟨w.heap.size + 1 + 1 + 1, 0, none⟩) M.mn M.mn, .int .i64 M.cs, .int .i64 M.cw, .int .i64 M.ck, .int .i64 M.cd, .int .i64 M.pc, .slice (some ⟨g1, 0, none⟩) M.kn M.kn, .slice (some ⟨g2, 0, none⟩) M.fn M.fn, .slice (some ⟨g3, 0, none⟩) M.rn M.rn, .slice (some ⟨g4, 0, none⟩) M.on M.on, .int .i64 M.md, .int .i64 M.bk, .slice (some ⟨w4.heap.size, 0, none⟩) M.ln M.ln, .slice (some ⟨w5.heap.size, 0, none⟩) M.hn M.hn, .int .i64 M.tn]) (by simp [results, Tryz.results45, go_sem, p0, p1, p2, p3, p4, p5, p6, p7, p8, p9, p10, p11, p12, p13, p14]) rfl ?_
  obtain ⟨z1, z2, z3, z4, z5, z6, hg3, hg4⟩ := HZ.out
  obtain ⟨⟨⟨⟨⟨⟨⟨_, a0⟩, a1⟩, a2⟩, a3⟩, a4⟩, a5⟩, a6⟩ := H7.out.rows
  exact ⟨w.heap.size + 1 + 1 + 1, g1, g2, g3, g4, w4.heap.size, w5.heap.size, ms', rfl, ⟨by omega, HL.out, a0, by obtain ⟨W, h1, h2⟩ := HXW.out; exact ⟨W, h1, by omega⟩, a1, a2, a3, a4, a5.mono (by omega), a6.mono (by omega)⟩, H7.out.hB⟩
set_option maxHeartbeats 1000000 in
theorem eqSlot_same (x0 : Bool) (x1 x2 x3 : Int) (w : World) : Calls Tryz.prog 188 #[.agg #[.bool x0, .int .i64 x1, .int .i64 x2, .int .i64 x3], .agg #[.bool x0, .int .i64 x1, .int .i64 x2, .int .i64 x3]] w fun e w' => e = .returned (.bool true) ∧ Below w.heap.size w w' := by
  have hB : Below w.heap.size w ((w.alloc (.cells #[.bool x0, .int .i64 x1, .int .i64 x2, .int .i64 x3] 134)).alloc (.cells #[.bool x0, .int .i64 x1, .int .i64 x2, .int .i64 x3] 134)) := ((Below.refl _ _).alloc (Nat.le_refl _) _).alloc (by simp) _
  have h0 : (x0 != x0) = false := by cases x0 <;> rfl
  have h1 : (x1 != x1) = false := by simp
  have h2 : (x2 != x2) = false := by simp
  have h3 : (x3 != x3) = false := by simp
  go_enter Tryz.func188, Tryz.ntmps188
  go_wp2
  go_ret
  exact ⟨rfl, hB⟩
set_option maxHeartbeats 2000000 in
theorem eqSlotS_same (a a' : Option Addr) (n c c' : Nat) (xs : List SlT) (w : World) (h : QS clSl zSl w a n c xs) (h' : QS clSl zSl w a' n c' xs) :
    Calls Tryz.prog 108 #[.slice a n c, .slice a' n c'] w fun e w' => e = .returned (.bool true) ∧ Below w.heap.size w w' := by
  have hne : ((n : Int) != (n : Int)) = false := by simp
  have hmx := h.2.1
  unfold maxLen at hmx
  have HH := hide (And.intro h h')
  clear h h'
  go_enter Tryz.func108, Tryz.ntmps108
  go_wp2
  go_loopw [5] (fun i wr => ∃ k : Nat, k ≤ n ∧ i = .int .i64 k ∧ Below w.heap.size w wr) (fun i _ => n - (intOf i).toNat)
  case atStart => exact ⟨0, Nat.zero_le _, rfl, Below.refl _ _⟩
  case round =>
    obtain ⟨k, hk, rfl, hB⟩ := hrel
    by_cases hlt : k < n
    · have hlt' : (k : Int) < (n : Int) := by omega
      obtain ⟨b, f, rfl, q0, q1, q2, q3⟩ := (HH.out.1.below hB).at k hlt _ _ _ _ rfl
      obtain ⟨b', f', rfl, p0, p1, p2, p3⟩ := (HH.out.2.below hB).at k hlt _ _ _ _ rfl
      generalize xs.getD k zSl = r at *
      obtain ⟨x0, x1, x2, x3⟩ := r
      simp only at q0 q1 q2 q3 p0 p1 p2 p3
      have hlb := World.block_lt_of_cell? _ _ q1
      have hlb' := World.block_lt_of_cell? _ _ p1
      have HB := hide hB
      clear hB
      go_wp2
      go_region_held3 (fun w' => w'.cell? ⟨b, f + k * 4, none⟩ = some (.bool x0) ∧ w'.cell? ⟨b, f + k * 4 + 1, none⟩ = some (.int .i64 x1) ∧ w'.cell? ⟨b, f + k * 4 + 2, none⟩ = some (.int .i64 x2) ∧ w'.cell? ⟨b, f + k * 4 + 3, none⟩ = some (.int .i64 x3) ∧ w'.cell? ⟨b', f' + k * 4, none⟩ = some (.bool x0) ∧ w'.cell? ⟨b', f' + k * 4 + 1, none⟩ = some (.int .i64 x1) ∧ w'.cell? ⟨b', f' + k * 4 + 2, none⟩ = some (.int .i64 x2) ∧ w'.cell? ⟨b', f' + k * 4 + 3, none⟩ = some (.int .i64 x3)) (go_keep)
        (first
          | (go_at_call 188; refine (eqSlot_same x0 x1 x2 x3 _).mono ?_; rintro e w1 ⟨rfl, hb1⟩; replace hb1 := undrew hb1; have key : ∀ g o v, wr.cell? ⟨g, o, none⟩ = some v → w1.cell? ⟨g, o, none⟩ = some v := (fun g o v hv => (hb1.cell (World.block_lt_of_cell? wr _ hv)).trans hv); have r0 := key _ _ _ q0; have r1 := key _ _ _ q1; have r2 := key _ _ _ q2; have r3 := key _ _ _ q3; have s0 := key _ _ _ p0; have s1 := key _ _ _ p1; have s2 := key _ _ _ p2; have s3 := key _ _ _ p3; clear key))
      have HB1 := hide (HB.out.trans (hb1.mono HB.out.size))
      clear q0 q1 q2 q3 p0 p1 p2 p3 hb1 r0 r1 r2 r3 s0 s1 s2 s3
      go_wp2
      go_roundw
      case rel => exact ⟨k + 1, by omega, by go_num, HB1.out⟩
      case measure => simp [intOf]; omega
    · have HB := hide hB
      clear hB
      go_wp2
      go_ret
      exact ⟨rfl, HB.out⟩
set_option maxHeartbeats 1000000 in
theorem eqFrame_same (x0 : Int) (x1 x2 x3 : Int) (w : World) : Calls Tryz.prog 189 #[.agg #[.int .i64 x0, .int .i64 x1, .int .i64 x2, .int .i64 x3], .agg #[.int .i64 x0, .int .i64 x1, .int .i64 x2, .int .i64 x3]] w fun e w' => e = .returned (.bool true) ∧ Below w.heap.size w w' := by
  have hB : Below w.heap.size w ((w.alloc (.cells #[.int .i64 x0, .int .i64 x1, .int .i64 x2, .int .i64 x3] 136)).alloc (.cells #[.int .i64 x0, .int .i64 x1, .int .i64 x2, .int .i64 x3] 136)) := ((Below.refl _ _).alloc (Nat.le_refl _) _).alloc (by simp) _
  have h0 : (x0 != x0) = false := by simp
  have h1 : (x1 != x1) = false := by simp
  have h2 : (x2 != x2) = false := by simp
  have h3 : (x3 != x3) = false := by simp
  go_enter Tryz.func189, Tryz.ntmps189
  go_wp2
  go_ret
  exact ⟨rfl, hB⟩
set_option maxHeartbeats 2000000 in
theorem eqFrameS_same (a a' : Option Addr) (n c c' : Nat) (xs : List FrT) (w : World) (h : QS clFr zFr w a n c xs) (h' : QS clFr zFr w a' n c' xs) :
    Calls Tryz.prog 109 #[.slice a n c, .slice a' n c'] w fun e w' => e = .returned (.bool true) ∧ Below w.heap.size w w' := by
  have hne : ((n : Int) != (n : Int)) = false := by simp
  have hmx := h.2.1
  unfold maxLen at hmx
  have HH := hide (And.intro h h')
  clear h h'
  go_enter Tryz.func109, Tryz.ntmps109
  go_wp2
  go_loopw [5] (fun i wr => ∃ k : Nat, k ≤ n ∧ i = .int .i64 k ∧ Below w.heap.size w wr) (fun i _ => n - (intOf i).toNat)
  case atStart => exact ⟨0, Nat.zero_le _, rfl, Below.refl _ _⟩
  case round =>
    obtain ⟨k, hk, rfl, hB⟩ := hrel
    by_cases hlt : k < n
    · have hlt' : (k : Int) < (n : Int) := by omega
      obtain ⟨b, f, rfl, q0, q1, q2, q3⟩ := (HH.out.1.below hB).at k hlt _ _ _ _ rfl
      obtain ⟨b', f', rfl, p0, p1, p2, p3⟩ := (HH.out.2.below hB).at k hlt _ _ _ _ rfl
      generalize xs.getD k zFr = r at *
      obtain ⟨x0, x1, x2, x3⟩ := r
      simp only at q0 q1 q2 q3 p0 p1 p2 p3
      have hlb := World.block_lt_of_cell? _ _ q1
      have hlb' := World.block_lt_of_cell? _ _ p1
      have HB := hide hB
      clear hB
      go_wp2
      go_region_held3 (fun w' => w'.cell? ⟨b, f + k * 4, none⟩ = some (.int .i64 x0) ∧ w'.cell? ⟨b, f + k * 4 + 1, none⟩ = some (.int .i64 x1) ∧ w'.cell? ⟨b, f + k * 4 + 2, none⟩ = some (.int .i64 x2) ∧ w'.cell? ⟨b, f + k * 4 + 3, none⟩ = some (.int .i64 x3) ∧ w'.cell? ⟨b', f' + k * 4, none⟩ = some (.int .i64 x0) ∧ w'.cell? ⟨b', f' + k * 4 + 1, none⟩ = some (.int .i64 x1) ∧ w'.cell? ⟨b', f' + k * 4 + 2, none⟩ = some (.int .i64 x2) ∧ w'.cell? ⟨b', f' + k * 4 + 3, none⟩ = some (.int .i64 x3)) (go_keep)
        (first
          | (go_at_call 189; refine (eqFrame_same x0 x1 x2 x3 _).mono ?_; rintro e w1 ⟨rfl, hb1⟩; replace hb1 := undrew hb1; have key : ∀ g o v, wr.cell? ⟨g, o, none⟩ = some v → w1.cell? ⟨g, o, none⟩ = some v := (fun g o v hv => (hb1.cell (World.block_lt_of_cell? wr _ hv)).trans hv); have r0 := key _ _ _ q0; have r1 := key _ _ _ q1; have r2 := key _ _ _ q2; have r3 := key _ _ _ q3; have s0 := key _ _ _ p0; have s1 := key _ _ _ p1; have s2 := key _ _ _ p2; have s3 := key _ _ _ p3; clear key))
      have HB1 := hide (HB.out.trans (hb1.mono HB.out.size))
      clear q0 q1 q2 q3 p0 p1 p2 p3 hb1 r0 r1 r2 r3 s0 s1 s2 s3
      go_wp2
      go_roundw
      case rel => exact ⟨k + 1, by omega, by go_num, HB1.out⟩
      case measure => simp [intOf]; omega
    · have HB := hide hB
      clear hB
      go_wp2
      go_ret
      exact ⟨rfl, HB.out⟩
structure Sam (M N : Mn) : Prop where
  s : N.cs = M.cs ∧ N.cw = M.cw ∧ N.ck = M.ck ∧ N.cd = M.cd ∧ N.pc = M.pc ∧ N.md = M.md ∧ N.bk = M.bk ∧ N.tn = M.tn
  n : N.mn = M.mn ∧ N.kn = M.kn ∧ N.fn = M.fn ∧ N.rn = M.rn ∧ N.on = M.on ∧ N.ln = M.ln ∧ N.hn = M.hn
  z : N.kz = M.kz ∧ N.fz = M.fz ∧ N.rz = M.rz ∧ N.oz = M.oz ∧ N.lz = M.lz ∧ N.hz = M.hz
  m : ∀ i, i < M.mn → Same (M.ms.getD i zMd) (N.ms.getD i zMd)
set_option maxHeartbeats 1000000 in
theorem eqConfig_same (s c k d : Int) (w : World) : Calls Tryz.prog 106 #[.agg #[.int .i64 s, .int .i64 c, .int .i64 k, .int .i64 d], .agg #[.int .i64 s, .int .i64 c, .int .i64 k, .int .i64 d]] w fun e w' => e = .returned (.bool true) ∧ Below w.heap.size w w' := by
  have hB : Below w.heap.size w ((w.alloc (.cells #[.int .i64 s, .int .i64 c, .int .i64 k, .int .i64 d] 44)).alloc (.cells #[.int .i64 s, .int .i64 c, .int .i64 k, .int .i64 d] 44)) := ((Below.refl _ _).alloc (Nat.le_refl _) _).alloc (by simp) _
  have h0 : (s != s) = false := by simp
  have h1 : (c != c) = false := by simp
  have h2 : (k != k) = false := by simp
  have h3 : (d != d) = false := by simp
  go_enter Tryz.func106, Tryz.ntmps106
  go_wp2
  go_ret
  exact ⟨rfl, hB⟩
set_option maxHeartbeats 8000000 in
theorem eqMachine_same (M N : Mn) (w : World) (h : MnD w M) (h' : MnD w N) (s : Sam M N) :
    Calls Tryz.prog 38 #[.agg #[.slice M.ma M.mn M.mc, .int .i64 M.cs, .int .i64 M.cw, .int .i64 M.ck, .int .i64 M.cd, .int .i64 M.pc, .slice M.ka M.kn M.kc, .slice M.fa M.fn M.fc, .slice M.ra M.rn M.rc, .slice M.oa M.on M.oc, .int .i64 M.md, .int .i64 M.bk, .slice M.la M.ln M.lc, .slice M.ha M.hn M.hc, .int .i64 M.tn], .agg #[.slice N.ma N.mn N.mc, .int .i64 N.cs, .int .i64 N.cw, .int .i64 N.ck, .int .i64 N.cd, .int .i64 N.pc, .slice N.ka N.kn N.kc, .slice N.fa N.fn N.fc, .slice N.ra N.rn N.rc, .slice N.oa N.on N.oc, .int .i64 N.md, .int .i64 N.bk, .slice N.la N.ln N.lc, .slice N.ha N.hn N.hc, .int .i64 N.tn]] w fun e w' => e = .returned (.bool true) ∧ Below w.heap.size w w' := by
  obtain ⟨⟨e1, e2, e3, e4, e5, e6, e7, e8⟩, ⟨n1, n2, n3, n4, n5, n6, n7⟩, ⟨z1, z2, z3, z4, z5, z6⟩, hm⟩ := s
  obtain ⟨m', k', f', r', o', l', h'⟩ := h'
  rw [n1] at m'
  rw [n2, z1] at k'
  rw [n3, z2] at f'
  rw [n4, z3] at r'
  rw [n5, z4] at o'
  rw [n6, z5] at l'
  rw [n7, z6] at h'
  rw [e1, e2, e3, e4, e5, e6, e7, e8, n1, n2, n3, n4, n5, n6, n7]
  clear e1 e2 e3 e4 e5 e6 e7 e8 n1 n2 n3 n4 n5 n6 n7 z1 z2 z3 z4 z5 z6
  have hB0 : Below w.heap.size w ((w.alloc (.cells #[.slice M.ma M.mn M.mc, .int .i64 M.cs, .int .i64 M.cw, .int .i64 M.ck, .int .i64 M.cd, .int .i64 M.pc, .slice M.ka M.kn M.kc, .slice M.fa M.fn M.fc, .slice M.ra M.rn M.rc, .slice M.oa M.on M.oc, .int .i64 M.md, .int .i64 M.bk, .slice M.la M.ln M.lc, .slice M.ha M.hn M.hc, .int .i64 M.tn] 54)).alloc (.cells #[.slice N.ma M.mn N.mc, .int .i64 M.cs, .int .i64 M.cw, .int .i64 M.ck, .int .i64 M.cd, .int .i64 M.pc, .slice N.ka M.kn N.kc, .slice N.fa M.fn N.fc, .slice N.ra M.rn N.rc, .slice N.oa M.on N.oc, .int .i64 M.md, .int .i64 M.bk, .slice N.la M.ln N.lc, .slice N.ha M.hn N.hc, .int .i64 M.tn] 54)) := ((Below.refl _ _).alloc (Nat.le_refl _) _).alloc (by simp) _
  have u0 := (Blk.new w #[.slice M.ma M.mn M.mc, .int .i64 M.cs, .int .i64 M.cw, .int .i64 M.ck, .int .i64 M.cd, .int .i64 M.pc, .slice M.ka M.kn M.kc, .slice M.fa M.fn M.fc, .slice M.ra M.rn M.rc, .slice M.oa M.on M.oc, .int .i64 M.md, .int .i64 M.bk, .slice M.la M.ln M.lc, .slice M.ha M.hn M.hc, .int .i64 M.tn] 54).alloc (.cells #[.slice N.ma M.mn N.mc, .int .i64 M.cs, .int .i64 M.cw, .int .i64 M.ck, .int .i64 M.cd, .int .i64 M.pc, .slice N.ka M.kn N.kc, .slice N.fa M.fn N.fc, .slice N.ra M.rn N.rc, .slice N.oa M.on N.oc, .int .i64 M.md, .int .i64 M.bk, .slice N.la M.ln N.lc, .slice N.ha M.hn N.hc, .int .i64 M.tn] 54)
  have v0 := Blk.new (w.alloc (.cells #[.slice M.ma M.mn M.mc, .int .i64 M.cs, .int .i64 M.cw, .int .i64 M.ck, .int .i64 M.cd, .int .i64 M.pc, .slice M.ka M.kn M.kc, .slice M.fa M.fn M.fc, .slice M.ra M.rn M.rc, .slice M.oa M.on M.oc, .int .i64 M.md, .int .i64 M.bk, .slice M.la M.ln M.lc, .slice M.ha M.hn M.hc, .int .i64 M.tn] 54)) #[.slice N.ma M.mn N.mc, .int .i64 M.cs, .int .i64 M.cw, .int .i64 M.ck, .int .i64 M.cd, .int .i64 M.pc, .slice N.ka M.kn N.kc, .slice N.fa M.fn N.fc, .slice N.ra M.rn N.rc, .slice N.oa M.on N.oc, .int .i64 M.md, .int .i64 M.bk, .slice N.la M.ln N.lc, .slice N.ha M.hn N.hc, .int .i64 M.tn] 54
  simp only [World.size_alloc] at v0
  have x1 : (M.md != M.md) = false := by simp
  have x2 : (M.bk != M.bk) = false := by simp
  have x3 : (M.tn != M.tn) = false := by simp
  have H1 := hide (fun (W : World) (hb : Below w.heap.size w W) => eqModuleS_same M.ma N.ma M.mn M.mc N.mc M.ms N.ms W (h.m.s.below hb) (m'.s.below hb) hm)
  have H2 := hide (fun (W : World) => eqConfig_same M.cs M.cw M.ck M.cd W)
  have H3 := hide (fun (W : World) (hb : Below w.heap.size w W) => eqCore_same M.pc M.ka N.ka M.kn M.kc N.kc M.kz W (h.k.below hb) (k'.below hb))
  have H4 := hide (fun (W : World) (hb : Below w.heap.size w W) => eqMem_same M.fa M.ra M.oa N.fa N.ra N.oa M.fn M.fc M.rn M.rc M.on M.oc M.fn N.fc M.rn N.rc M.on N.oc M.fz M.rz M.oz W (h.f.below hb) (h.r.below hb) (h.o.below hb) (f'.below hb) (r'.below hb) (o'.below hb))
  have H5 := hide (fun (W : World) (hb : Below w.heap.size w W) => eqSlotS_same M.la N.la M.ln M.lc N.lc M.lz W (h.l.below hb) (l'.below hb))
  have H6 := hide (fun (W : World) (hb : Below w.heap.size w W) => eqFrameS_same M.ha N.ha M.hn M.hc N.hc M.hz W (h.h.below hb) (h'.below hb))
  clear h m' k' f' r' o' l' h' hm
  have HK := hide (And.intro u0 v0)
  go_enter Tryz.func38, Tryz.ntmps38
  go_wp2_with fail
  refine (H1.out _ hB0).mono ?_
  rintro e w1 ⟨rfl, hb⟩
  have hB1 := hB0.trans (hb.mono (by have := hB0.size; simp; omega))
  have K1 := And.intro (HK.out.1.below hb) (HK.out.2.below hb)
  clear hB0 u0 v0 hb HK
  have p1 : w1.cell? ⟨w.heap.size, 1, none⟩ = some (.int .i64 M.cs) := K1.1.cell 1
  have q1 : w1.cell? ⟨w.heap.size + 1, 1, none⟩ = some (.int .i64 M.cs) := K1.2.cell 1
  have p2 : w1.cell? ⟨w.heap.size, 2, none⟩ = some (.int .i64 M.cw) := K1.1.cell 2
  have q2 : w1.cell? ⟨w.heap.size + 1, 2, none⟩ = some (.int .i64 M.cw) := K1.2.cell 2
  have p3 : w1.cell? ⟨w.heap.size, 3, none⟩ = some (.int .i64 M.ck) := K1.1.cell 3
  have q3 : w1.cell? ⟨w.heap.size + 1, 3, none⟩ = some (.int .i64 M.ck) := K1.2.cell 3
  have p4 : w1.cell? ⟨w.heap.size, 4, none⟩ = some (.int .i64 M.cd) := K1.1.cell 4
  have q4 : w1.cell? ⟨w.heap.size + 1, 4, none⟩ = some (.int .i64 M.cd) := K1.2.cell 4
  have HK := hide K1
  clear K1
  go_wp2_with fail
  refine (H2.out _).mono ?_
  rintro e w2 ⟨rfl, hb⟩
  have hB2 := hB1.trans (hb.mono hB1.size)
  have K2 := And.intro (HK.out.1.below hb) (HK.out.2.below hb)
  clear hB1 hb HK p1 q1 p2 q2 p3 q3 p4 q4
  have p5 : w2.cell? ⟨w.heap.size, 5, none⟩ = some (.int .i64 M.pc) := K2.1.cell 5
  have q5 : w2.cell? ⟨w.heap.size + 1, 5, none⟩ = some (.int .i64 M.pc) := K2.2.cell 5
  have p6 : w2.cell? ⟨w.heap.size, 6, none⟩ = some (.slice M.ka M.kn M.kc) := K2.1.cell 6
  have q6 : w2.cell? ⟨w.heap.size + 1, 6, none⟩ = some (.slice N.ka M.kn N.kc) := K2.2.cell 6
  have HK := hide K2
  clear K2
  go_wp2_with fail
  refine (H3.out _ hB2).mono ?_
  rintro e w3 ⟨rfl, hb⟩
  have hB3 := hB2.trans (hb.mono hB2.size)
  have K3 := And.intro (HK.out.1.below hb) (HK.out.2.below hb)
  clear hB2 hb HK p5 q5 p6 q6
  have p7 : w3.cell? ⟨w.heap.size, 7, none⟩ = some (.slice M.fa M.fn M.fc) := K3.1.cell 7
  have q7 : w3.cell? ⟨w.heap.size + 1, 7, none⟩ = some (.slice N.fa M.fn N.fc) := K3.2.cell 7
  have p8 : w3.cell? ⟨w.heap.size, 8, none⟩ = some (.slice M.ra M.rn M.rc) := K3.1.cell 8
  have q8 : w3.cell? ⟨w.heap.size + 1, 8, none⟩ = some (.slice N.ra M.rn N.rc) := K3.2.cell 8
  have p9 : w3.cell? ⟨w.heap.size, 9, none⟩ = some (.slice M.oa M.on M.oc) := K3.1.cell 9
  have q9 : w3.cell? ⟨w.heap.size + 1, 9, none⟩ = some (.slice N.oa M.on N.oc) := K3.2.cell 9
  have HK := hide K3
  clear K3
  go_wp2_with fail
  refine (H4.out _ hB3).mono ?_
  rintro e w4 ⟨rfl, hb⟩
  have hB4 := hB3.trans (hb.mono hB3.size)
  have K4 := And.intro (HK.out.1.below hb) (HK.out.2.below hb)
  clear hB3 hb HK p7 q7 p8 q8 p9 q9
  have p10 : w4.cell? ⟨w.heap.size, 10, none⟩ = some (.int .i64 M.md) := K4.1.cell 10
  have q10 : w4.cell? ⟨w.heap.size + 1, 10, none⟩ = some (.int .i64 M.md) := K4.2.cell 10
  have p11 : w4.cell? ⟨w.heap.size, 11, none⟩ = some (.int .i64 M.bk) := K4.1.cell 11
  have q11 : w4.cell? ⟨w.heap.size + 1, 11, none⟩ = some (.int .i64 M.bk) := K4.2.cell 11
  have p12 : w4.cell? ⟨w.heap.size, 12, none⟩ = some (.slice M.la M.ln M.lc) := K4.1.cell 12
  have q12 : w4.cell? ⟨w.heap.size + 1, 12, none⟩ = some (.slice N.la M.ln N.lc) := K4.2.cell 12
  have HK := hide K4
  clear K4
  go_wp2_with fail
  refine (H5.out _ hB4).mono ?_
  rintro e w5 ⟨rfl, hb⟩
  have hB5 := hB4.trans (hb.mono hB4.size)
  have K5 := And.intro (HK.out.1.below hb) (HK.out.2.below hb)
  clear hB4 hb HK p10 q10 p11 q11 p12 q12
  have p13 : w5.cell? ⟨w.heap.size, 13, none⟩ = some (.slice M.ha M.hn M.hc) := K5.1.cell 13
  have q13 : w5.cell? ⟨w.heap.size + 1, 13, none⟩ = some (.slice N.ha M.hn N.hc) := K5.2.cell 13
  have HK := hide K5
  clear K5
  go_wp2_with fail
  refine (H6.out _ hB5).mono ?_
  rintro e w6 ⟨rfl, hb⟩
  have hB6 := hB5.trans (hb.mono hB5.size)
  have K6 := And.intro (HK.out.1.below hb) (HK.out.2.below hb)
  clear hB5 hb HK p13 q13
  have p14 : w6.cell? ⟨w.heap.size, 14, none⟩ = some (.int .i64 M.tn) := K6.1.cell 14
  have q14 : w6.cell? ⟨w.heap.size + 1, 14, none⟩ = some (.int .i64 M.tn) := K6.2.cell 14
  clear K6
  go_wp2
  go_ret
  exact ⟨rfl, hB6⟩
end Go.Proofs.YtngdgogjlpjjpaeGreat
namespace Go.Proofs.YtngdgogjlpjjpaeGreat
open Go.ChangeShapes Go.WideShapes Go.ChangeAt Go.RowKit Classical
set_option linter.unusedVariables false
theorem own : ownKnob Tryz.prog.godebug = none := by kernel_rfl
theorem laidOut : laidOutB Tryz.prog = true := by kernel_rfl
theorem wf_u8 {z : Int} (h : (Lit.int .u8 z).wf = true) : 0 ≤ z ∧ z ≤ 255 := by
  simp [Lit.wf, IntKind.min, IntKind.max, IntKind.signed, IntKind.bits] at h
  omega
theorem wf_i64 {z : Int} (h : (Lit.int .i64 z).wf = true) : -9223372036854775808 ≤ z ∧ z ≤ 9223372036854775807 := by
  simp [Lit.wf, IntKind.min, IntKind.max, IntKind.signed, IntKind.bits] at h
  omega
set_option maxRecDepth 100000 in
theorem bs_of_trod {H : Type} {enc : TypeId × Value → H} {w : World} {base : Nat} {held : Bool} {fuel : Nat} {cs : List Value} {x : DataW H × List MemPlace}
    (h : DataW.trod enc Tryz.prog w base (fun _ => true) held fuel 41 cs = some x) : ∃ a n cap zs, cs = [.slice a n cap] ∧ BS w a n cap zs := by
  rcases open_ints Tryz.underlying41 Tryz.underlying5 (by kernel_rfl) h with ⟨hcs, _⟩ | ⟨x, l, c, zs, hcs, _, hl, hm, hz, _, hcell, hwz⟩
  · exact ⟨none, 0, 0, [], hcs, rfl, Nat.zero_le _, by simp, fun h => absurd rfl h, Nat.le_refl _⟩
  · simp at hz
    refine ⟨some x, l, c, zs.take l, hcs, by simp; omega, by omega, fun z hz' => wf_u8 (hwz z (List.mem_of_mem_take hz')), fun hl0 => ?_, hl⟩
    obtain ⟨b, off, spot⟩ := x
    have hspot : spot = none := by simpa [Addr.add] using World.cell?_spot (hcell 0 (by omega))
    subst hspot
    refine ⟨b, off, rfl, fun i hi => ?_⟩
    have := hcell i (by omega)
    have ea : (Addr.add ⟨b, off, none⟩ i) = ⟨b, off + i, none⟩ := by
      simp only [Addr.add]
      split
      · next h => subst h; rfl
      · rfl
    rw [ea] at this
    rw [this]
    simp [List.getD_eq_getElem?_getD, hi]
theorem addM (b off i : Nat) : (Addr.add ⟨b, off, none⟩ i) = ⟨b, off + i, none⟩ := by
  simp only [Addr.add]
  split
  · next h => subst h; rfl
  · rfl
set_option maxRecDepth 100000 in
theorem ints_of_trod {H : Type} {enc : TypeId × Value → H} {w : World} {base : Nat} {held : Bool} {fuel : Nat} {cs : List Value} {x : DataW H × List MemPlace}
    (h : DataW.trod enc Tryz.prog w base (fun _ => true) held fuel 24 cs = some x) : ∃ a n cap zs, cs = [.slice a n cap] ∧ IS w a n cap zs := by
  rcases open_ints Tryz.underlying24 Tryz.underlying3 (by kernel_rfl) h with ⟨hcs, _⟩ | ⟨x, l, c, zs, hcs, _, hl, hm, hz, _, hcell, hwz⟩
  · exact ⟨none, 0, 0, [], hcs, rfl, Nat.zero_le _, by simp, fun h => absurd rfl h, Nat.le_refl _⟩
  · simp at hz
    refine ⟨some x, l, c, zs.take l, hcs, by simp; omega, by omega, fun z hz' => wf_i64 (hwz z (List.mem_of_mem_take hz')), fun hl0 => ?_, hl⟩
    obtain ⟨b, off, spot⟩ := x
    have hspot : spot = none := by simpa [Addr.add] using World.cell?_spot (hcell 0 (by omega))
    subst hspot
    refine ⟨b, off, rfl, fun i hi => ?_⟩
    have := hcell i (by omega)
    rw [addM] at this
    rw [this]
    simp [List.getD_eq_getElem?_getD, hi]
set_option maxRecDepth 100000 in
theorem bks_of_trod {H : Type} {enc : TypeId × Value → H} {w : World} {base : Nat} {held : Bool} {fuel : Nat} {cs : List Value} {x : DataW H × List MemPlace}
    (h : DataW.trod enc Tryz.prog w base (fun _ => true) held fuel 93 cs = some x) : ∃ a n cap bl, cs = [.slice a n cap] ∧ BKS w a n cap bl := by
  have e1 : Tryz.prog.cellsOf 24 = 1 := by kernel_rfl
  rcases Deep.open_slice Tryz.underlying93 h with ⟨hcs, _⟩ | ⟨a, len, cap, m, n, D, Pl, hcs, hb, hl, hm, hmm, hx, hd⟩
  · exact ⟨none, 0, 0, [], hcs, rfl, Nat.zero_le _, fun h => absurd rfl h, fun i hi => by omega, Nat.le_refl _⟩
  · simp at hmm
    rw [hmm] at hd
    rw [e1] at hd
    obtain ⟨G, hG⟩ := Deep.choose_lt (α := Bk) (p := fun i g => (∃ cs', w.cells? base (a.add (i * 1)) 1 = some cs' ∧ cs' = [Value.slice g.1 g.2.1 g.2.2.1]) ∧ IS w g.1 g.2.1 g.2.2.1 g.2.2.2) (n := len) (fun i hi => by
      obtain ⟨cs', h1, h2⟩ := hd i (by omega)
      obtain ⟨a', n', c', zs', e, hI⟩ := ints_of_trod h2
      exact ⟨(a', n', c', zs'), ⟨cs', h1, e⟩, hI⟩)
    have hgi : ∀ i, i < len → ((List.range len).map G).getD i zB = G i := fun i hi => by simp [List.getD_eq_getElem?_getD, hi]
    refine ⟨some a, len, cap, (List.range len).map G, hcs, by simp, by omega, ?_, fun i hi => by rw [hgi i hi]; exact (hG i hi).2, hl⟩
    intro hn
    obtain ⟨b, off, spot⟩ := a
    have hspot : spot = none := by
      obtain ⟨⟨cs', h1, h2⟩, _⟩ := hG 0 (by omega)
      have := (World.cells?_some h1).2.2 0 (by omega)
      rw [h2] at this
      simpa [Addr.add] using World.cell?_spot this
    subst hspot
    refine ⟨b, off, rfl, fun i hi => ?_⟩
    obtain ⟨⟨cs', h1, h2⟩, _⟩ := hG i hi
    have hc := (World.cells?_some h1).2.2
    rw [h2] at hc
    rw [hgi i hi]
    simp only [addM] at hc
    simpa using hc 0 (by omega)
set_option maxRecDepth 100000 in
theorem ts_of_trod {H : Type} {enc : TypeId × Value → H} {w : World} {base : Nat} {held : Bool} {fuel : Nat} {cs : List Value} {x : DataW H × List MemPlace}
    (h : DataW.trod enc Tryz.prog w base (fun _ => true) held fuel 94 cs = some x) : ∃ a n cap ss, cs = [.slice a n cap] ∧ TS w a n cap ss := by
  have e1 : Tryz.prog.cellsOf 9 = 1 := by kernel_rfl
  have ez : zS.size ≤ maxLen := by decide
  rcases Deep.open_slice Tryz.underlying94 h with ⟨hcs, _⟩ | ⟨a, len, cap, m, n, D, Pl, hcs, hb, hl, hm, hmm, hx, hd⟩
  · exact ⟨none, 0, 0, [], hcs, rfl, Nat.zero_le _, fun i => by simpa using ez, fun h => absurd rfl h, Nat.le_refl _⟩
  · simp at hmm
    rw [hmm] at hd
    rw [e1] at hd
    obtain ⟨G, hG⟩ := Deep.choose_lt (α := ByteArray) (p := fun i g => (∃ cs', w.cells? base (a.add (i * 1)) 1 = some cs' ∧ cs' = [Value.string g]) ∧ g.size ≤ maxLen) (n := len) (fun i hi => by
      obtain ⟨cs', h1, h2⟩ := hd i (by omega)
      obtain ⟨s, e, _, hI⟩ := DataW.trod_string Tryz.underlying9 h2
      exact ⟨s, ⟨cs', h1, e⟩, hI⟩)
    have hgi : ∀ i, i < len → ((List.range len).map G).getD i zS = G i := fun i hi => by simp [List.getD_eq_getElem?_getD, hi]
    refine ⟨some a, len, cap, (List.range len).map G, hcs, by simp, by omega, fun i => ?_, ?_, hl⟩
    · by_cases hi : i < len
      · rw [hgi i hi]; exact (hG i hi).2
      · rw [List.getD_eq_getElem?_getD, List.getElem?_eq_none (by simp; omega)]; exact ez
    intro hn
    obtain ⟨b, off, spot⟩ := a
    have hspot : spot = none := by
      obtain ⟨⟨cs', h1, h2⟩, _⟩ := hG 0 (by omega)
      have := (World.cells?_some h1).2.2 0 (by omega)
      rw [h2] at this
      simpa [Addr.add] using World.cell?_spot this
    subst hspot
    refine ⟨b, off, rfl, fun i hi => ?_⟩
    obtain ⟨⟨cs', h1, h2⟩, _⟩ := hG i hi
    have hc := (World.cells?_some h1).2.2
    rw [h2] at hc
    rw [hgi i hi]
    simp only [addM] at hc
    simpa using hc 0 (by omega)
set_option maxRecDepth 100000 in
theorem export_cells {H : Type} {enc : TypeId × Value → H} {w : World} {base : Nat} {held : Bool} {spare : Nat → Bool} {fuel : Nat} {cs : List Value} {x : DataW H × List MemPlace}
    (h : DataW.trod enc Tryz.prog w base spare held fuel 242 cs = some x) : ∃ g : Ex, cs = [.string g.1, .int .i64 g.2.1, .int .i64 g.2.2] ∧ g.1.size ≤ maxLen := by
  obtain ⟨xs, n, _, _, hl, hlen, hf⟩ := DataW.trod_struct Tryz.underlying242 h
  have e6 : Tryz.prog.cellsOf 242 = 3 := by kernel_rfl
  rw [e6] at hl
  match xs, hlen, cs, hl with
  | [y0, y1, y2], _, [c0, c1, c2], _ =>
  have k0 := hf 0 _ rfl
  have k1 := hf 1 _ rfl
  have k2 := hf 2 _ rfl
  have e3 : Tryz.prog.cellsOf 3 = 1 := by kernel_rfl
  have e4 : Tryz.prog.cellsOf 9 = 1 := by kernel_rfl
  simp [e3, e4] at k0 k1 k2
  obtain ⟨a0, h0, _, wa⟩ := DataW.trod_string Tryz.underlying9 k0
  obtain ⟨a1, h1, _, wb⟩ := DataW.trod_int Tryz.underlying3 k1
  obtain ⟨a2, h2, _, wc⟩ := DataW.trod_int Tryz.underlying3 k2
  simp at h0 h1 h2
  subst h0 h1 h2
  exact ⟨(a0, a1, a2), rfl, wa⟩
set_option maxRecDepth 100000 in
theorem te_of_trod {H : Type} {enc : TypeId × Value → H} {w : World} {base : Nat} {held : Bool} {fuel : Nat} {cs : List Value} {x : DataW H × List MemPlace}
    (h : DataW.trod enc Tryz.prog w base (fun _ => true) held fuel 95 cs = some x) : ∃ a n cap es, cs = [.slice a n cap] ∧ TE w a n cap es := by
  have e1 : Tryz.prog.cellsOf 242 = 3 := by kernel_rfl
  have ez : (zE).1.size ≤ maxLen := by decide
  rcases Deep.open_slice Tryz.underlying95 h with ⟨hcs, _⟩ | ⟨a, len, cap, m, n, D, Pl, hcs, hb, hl, hm, hmm, hx, hd⟩
  · exact ⟨none, 0, 0, [], hcs, rfl, Nat.zero_le _, fun i => by simpa using ez, fun h => absurd rfl h, Nat.le_refl _⟩
  · simp at hmm
    rw [hmm] at hd
    rw [e1] at hd
    obtain ⟨G, hG⟩ := Deep.choose_lt (α := Ex) (p := fun i g => (∃ cs', w.cells? base (a.add (i * 3)) 3 = some cs' ∧ cs' = [.string g.1, .int .i64 g.2.1, .int .i64 g.2.2]) ∧ g.1.size ≤ maxLen) (n := len) (fun i hi => by
      obtain ⟨cs', h1, h2⟩ := hd i (by omega)
      obtain ⟨s, e, hI⟩ := export_cells h2
      exact ⟨s, ⟨cs', h1, e⟩, hI⟩)
    have hgi : ∀ i, i < len → ((List.range len).map G).getD i zE = G i := fun i hi => by simp [List.getD_eq_getElem?_getD, hi]
    refine ⟨some a, len, cap, (List.range len).map G, hcs, by simp, by omega, fun i => ?_, ?_, hl⟩
    · by_cases hi : i < len
      · rw [hgi i hi]; exact (hG i hi).2
      · rw [List.getD_eq_getElem?_getD, List.getElem?_eq_none (by simp; omega)]; exact ez
    intro hn
    obtain ⟨b, off, spot⟩ := a
    have hspot : spot = none := by
      obtain ⟨⟨cs', h1, h2⟩, _⟩ := hG 0 (by omega)
      have := (World.cells?_some h1).2.2 0 (by omega)
      rw [h2] at this
      simpa [Addr.add] using World.cell?_spot this
    subst hspot
    refine ⟨b, off, rfl, fun i hi => ?_⟩
    obtain ⟨⟨cs', h1, h2⟩, _⟩ := hG i hi
    have hc := (World.cells?_some h1).2.2
    rw [h2] at hc
    rw [hgi i hi]
    simp only [addM] at hc
    exact ⟨hc 0 (by omega), hc 1 (by omega), hc 2 (by omega)⟩
set_option maxRecDepth 100000 in
theorem module_cells {H : Type} {enc : TypeId × Value → H} {w : World} {base : Nat} {held : Bool} {fuel : Nat} {cs : List Value} {x : DataW H × List MemPlace}
    (h : DataW.trod enc Tryz.prog w base (fun _ => true) held fuel 97 cs = some x) : ∃ m : Md, cs = m.cells.toList ∧ m.mt w := by
  obtain ⟨xs, n, _, _, hl, hlen, hf⟩ := DataW.trod_struct Tryz.underlying97 h
  have e8 : Tryz.prog.cellsOf 97 = 8 := by kernel_rfl
  rw [e8] at hl
  match xs, hlen, cs, hl with
  | [y0, y1, y2, y3, y4, y5, y6, y7], _, [c0, c1, c2, c3, c4, c5, c6, c7], _ =>
  have k0 := hf 0 _ rfl
  have k1 := hf 1 _ rfl
  have k2 := hf 2 _ rfl
  have k3 := hf 3 _ rfl
  have k4 := hf 4 _ rfl
  have k5 := hf 5 _ rfl
  have k6 := hf 6 _ rfl
  have k7 := hf 7 _ rfl
  have e1 : Tryz.prog.cellsOf 3 = 1 := by kernel_rfl
  have e2 : Tryz.prog.cellsOf 9 = 1 := by kernel_rfl
  have e3 : Tryz.prog.cellsOf 24 = 1 := by kernel_rfl
  have e4 : Tryz.prog.cellsOf 93 = 1 := by kernel_rfl
  have e5 : Tryz.prog.cellsOf 41 = 1 := by kernel_rfl
  have e6 : Tryz.prog.cellsOf 94 = 1 := by kernel_rfl
  have e7 : Tryz.prog.cellsOf 95 = 1 := by kernel_rfl
  simp [e1, e2, e3, e4, e5, e6, e7] at k0 k1 k2 k3 k4 k5 k6 k7
  obtain ⟨nm, h0, _, w0⟩ := DataW.trod_string Tryz.underlying9 k0
  obtain ⟨ta, tn, tc, tz, h1, w1⟩ := ints_of_trod k1
  obtain ⟨ba, bn, bc, bl, h2, w2⟩ := bks_of_trod k2
  obtain ⟨da, dn, dc, dz, h3, w3⟩ := bs_of_trod k3
  obtain ⟨bss, h4, _, w4⟩ := DataW.trod_int Tryz.underlying3 k4
  obtain ⟨ra, rn, rc, rz, h5, w5⟩ := ints_of_trod k5
  obtain ⟨ia, im, ic, ss, h6, w6⟩ := ts_of_trod k6
  obtain ⟨ea, en, ec, es, h7, w7⟩ := te_of_trod k7
  simp at h0 h1 h2 h3 h4 h5 h6 h7
  subst h0 h1 h2 h3 h4 h5 h6 h7
  exact ⟨⟨nm, ta, tn, tc, tz, ba, bn, bc, bl, da, dn, dc, dz, bss, ra, rn, rc, rz, ia, im, ic, ss, ea, en, ec, es⟩, rfl, w0, w1, w2, w3, wf_i64 w4, w5, w6, w7⟩
set_option maxRecDepth 100000 in
theorem ms_of_trod {H : Type} {enc : TypeId × Value → H} {w : World} {base : Nat} {held : Bool} {fuel : Nat} {cs : List Value} {x : DataW H × List MemPlace}
    (h : DataW.trod enc Tryz.prog w base (fun _ => true) held fuel 22 cs = some x) : ∃ a n cap ms, cs = [.slice a n cap] ∧ MS w a n cap ms := by
  have e1 : Tryz.prog.cellsOf 97 = 8 := by kernel_rfl
  rcases Deep.open_slice Tryz.underlying22 h with ⟨hcs, _⟩ | ⟨a, len, cap, m, n, D, Pl, hcs, hb, hl, hm, hmm, hx, hd⟩
  · exact ⟨none, 0, 0, [], hcs, rfl, Nat.zero_le _, fun h => absurd rfl h, fun i hi => by omega, Nat.le_refl _⟩
  · simp at hmm
    rw [hmm] at hd
    rw [e1] at hd
    haveI : Inhabited Md := ⟨zMd⟩
    obtain ⟨G, hG⟩ := Deep.choose_lt (α := Md) (p := fun i g => (∃ cs', w.cells? base (a.add (i * 8)) 8 = some cs' ∧ cs' = g.cells.toList) ∧ g.mt w) (n := len) (fun i hi => by
      obtain ⟨cs', h1, h2⟩ := hd i (by omega)
      obtain ⟨s, e, hI⟩ := module_cells h2
      exact ⟨s, ⟨cs', h1, e⟩, hI⟩)
    have hgi : ∀ i, i < len → ((List.range len).map G).getD i zMd = G i := fun i hi => by simp [List.getD_eq_getElem?_getD, hi]
    refine ⟨some a, len, cap, (List.range len).map G, hcs, by simp, by omega, ?_, fun i hi => by rw [hgi i hi]; exact (hG i hi).2, hl⟩
    intro hn
    obtain ⟨b, off, spot⟩ := a
    have hspot : spot = none := by
      obtain ⟨⟨cs', h1, h2⟩, _⟩ := hG 0 (by omega)
      have := (World.cells?_some h1).2.2 0 (by omega)
      rw [h2] at this
      simpa [Addr.add, Md.cells] using World.cell?_spot this
    subst hspot
    refine ⟨b, off, rfl, fun i hi => ?_⟩
    obtain ⟨⟨cs', h1, h2⟩, _⟩ := hG i hi
    have hc := (World.cells?_some h1).2.2
    rw [h2] at hc
    rw [hgi i hi]
    simp only [addM] at hc
    exact ⟨hc 0 (by omega), hc 1 (by omega), hc 2 (by omega), hc 3 (by omega), hc 4 (by omega), hc 5 (by omega), hc 6 (by omega), hc 7 (by omega)⟩
set_option maxRecDepth 100000 in
theorem is_of_trod {H : Type} {enc : TypeId × Value → H} {w : World} {base : Nat} {held : Bool} {fuel : Nat} {cs : List Value} {x : DataW H × List MemPlace}
    (h : DataW.trod enc Tryz.prog w base (fun _ => true) held fuel 24 cs = some x) : ∃ a n cap zs, cs = [.slice a n cap] ∧ IS w a n cap zs := by
  rcases open_ints Tryz.underlying24 Tryz.underlying3 (by kernel_rfl) h with ⟨hcs, _⟩ | ⟨x, l, c, zs, hcs, _, hl, hm, hz, _, hcell, hwz⟩
  · exact ⟨none, 0, 0, [], hcs, rfl, Nat.zero_le _, by simp, fun h => absurd rfl h, Nat.le_refl _⟩
  · simp at hz
    refine ⟨some x, l, c, zs.take l, hcs, by simp; omega, by omega, fun z hz' => wf_i64 (hwz z (List.mem_of_mem_take hz')), fun hl0 => ?_, hl⟩
    obtain ⟨b, off, spot⟩ := x
    have hspot : spot = none := by simpa [Addr.add] using World.cell?_spot (hcell 0 (by omega))
    subst hspot
    refine ⟨b, off, rfl, fun i hi => ?_⟩
    have := hcell i (by omega)
    have ea : (Addr.add ⟨b, off, none⟩ i) = ⟨b, off + i, none⟩ := by
      simp only [Addr.add]
      split
      · next h => subst h; rfl
      · rfl
    rw [ea] at this
    rw [this]
    simp [List.getD_eq_getElem?_getD, hi]
end Go.Proofs.YtngdgogjlpjjpaeGreat
namespace Go.Proofs.YtngdgogjlpjjpaeGreat
open Go.ChangeShapes Go.WideShapes Go.ChangeAt Go.RowKit Classical
set_option linter.unusedVariables false
set_option linter.unusedSimpArgs false
set_option maxRecDepth 100000 in
theorem Sl_cells {H : Type} {enc : TypeId × Value → H} {w : World} {base : Nat} {held : Bool} {spare : Nat → Bool} {fuel : Nat} {cs : List Value} {x : DataW H × List MemPlace}
    (h : DataW.trod enc Tryz.prog w base spare held fuel 238 cs = some x) : ∃ g : SlT, cs = clSl g := by
  obtain ⟨xs, n, _, _, hl, hlen, hf⟩ := DataW.trod_struct Tryz.underlying238 h
  have e6 : Tryz.prog.cellsOf 238 = 4 := by kernel_rfl
  rw [e6] at hl
  match xs, hlen, cs, hl with
  | [y0, y1, y2, y3], _, [c0, c1, c2, c3], _ =>
  have k0 := hf 0 _ rfl
  have k1 := hf 1 _ rfl
  have k2 := hf 2 _ rfl
  have k3 := hf 3 _ rfl
  have e3 : Tryz.prog.cellsOf 3 = 1 := by kernel_rfl
  have e4 : Tryz.prog.cellsOf 4 = 1 := by kernel_rfl
  simp [e3, e4] at k0 k1 k2 k3
  obtain ⟨a0, h0, _⟩ := DataW.trod_bool Tryz.underlying4 k0
  obtain ⟨a1, h1, _, wb⟩ := DataW.trod_int Tryz.underlying3 k1
  obtain ⟨a2, h2, _, wc⟩ := DataW.trod_int Tryz.underlying3 k2
  obtain ⟨a3, h3, _, wd⟩ := DataW.trod_int Tryz.underlying3 k3
  simp at h0 h1 h2 h3
  subst h0 h1 h2 h3
  exact ⟨(a0, a1, a2, a3), rfl⟩
set_option maxRecDepth 100000 in
theorem Sl_of_trod {H : Type} {enc : TypeId × Value → H} {w : World} {base : Nat} {held : Bool} {fuel : Nat} {cs : List Value} {x : DataW H × List MemPlace}
    (h : DataW.trod enc Tryz.prog w base (fun _ => true) held fuel 85 cs = some x) : ∃ a n cap zs, cs = [.slice a n cap] ∧ QS clSl zSl w a n cap zs := by
  have e1 : Tryz.prog.cellsOf 238 = 4 := by kernel_rfl
  rcases Deep.open_slice Tryz.underlying85 h with ⟨hcs, _⟩ | ⟨a, len, cap, m, n, D, Pl, hcs, hb, hl, hm, hmm, hx, hd⟩
  · exact ⟨none, 0, 0, [], hcs, rfl, Nat.zero_le _, fun h => absurd rfl h, Nat.le_refl _⟩
  · simp at hmm
    rw [hmm] at hd
    rw [e1] at hd
    obtain ⟨G, hG⟩ := Deep.choose_lt (α := SlT) (p := fun i g => ∃ cs', w.cells? base (a.add (i * 4)) 4 = some cs' ∧ cs' = clSl g) (n := len) (fun i hi => by
      obtain ⟨cs', h1, h2⟩ := hd i (by omega)
      obtain ⟨s, e⟩ := Sl_cells h2
      exact ⟨s, cs', h1, e⟩)
    have hgi : ∀ i, i < len → ((List.range len).map G).getD i zSl = G i := fun i hi => by simp [List.getD_eq_getElem?_getD, hi]
    refine ⟨some a, len, cap, (List.range len).map G, hcs, by simp, by omega, ?_, hl⟩
    intro hn
    obtain ⟨b, off, spot⟩ := a
    have hspot : spot = none := by
      obtain ⟨cs', h1, h2⟩ := hG 0 (by omega)
      have := (World.cells?_some h1).2.2 0 (by omega)
      rw [h2] at this
      simpa [Addr.add, clSl] using World.cell?_spot this
    subst hspot
    refine ⟨b, off, rfl, fun i hi j v hv => ?_⟩
    obtain ⟨cs', h1, h2⟩ := hG i hi
    have hc := (World.cells?_some h1).2.2
    rw [h2] at hc
    rw [hgi i hi] at hv
    simp only [addM] at hc
    have hj : j < 4 := by
      rcases Nat.lt_or_ge j 4 with h | h
      · exact h
      · rw [List.getElem?_eq_none (by rw [clSl_len]; exact h)] at hv; cases hv
    rw [hc j (by omega), ← hv]
set_option maxRecDepth 100000 in
theorem Fr_cells {H : Type} {enc : TypeId × Value → H} {w : World} {base : Nat} {held : Bool} {spare : Nat → Bool} {fuel : Nat} {cs : List Value} {x : DataW H × List MemPlace}
    (h : DataW.trod enc Tryz.prog w base spare held fuel 240 cs = some x) : ∃ g : FrT, cs = clFr g := by
  obtain ⟨xs, n, _, _, hl, hlen, hf⟩ := DataW.trod_struct Tryz.underlying240 h
  have e6 : Tryz.prog.cellsOf 240 = 4 := by kernel_rfl
  rw [e6] at hl
  match xs, hlen, cs, hl with
  | [y0, y1, y2, y3], _, [c0, c1, c2, c3], _ =>
  have k0 := hf 0 _ rfl
  have k1 := hf 1 _ rfl
  have k2 := hf 2 _ rfl
  have k3 := hf 3 _ rfl
  have e3 : Tryz.prog.cellsOf 3 = 1 := by kernel_rfl
  have e4 : Tryz.prog.cellsOf 4 = 1 := by kernel_rfl
  simp [e3, e4] at k0 k1 k2 k3
  obtain ⟨a0, h0, _, wa⟩ := DataW.trod_int Tryz.underlying3 k0
  obtain ⟨a1, h1, _, wb⟩ := DataW.trod_int Tryz.underlying3 k1
  obtain ⟨a2, h2, _, wc⟩ := DataW.trod_int Tryz.underlying3 k2
  obtain ⟨a3, h3, _, wd⟩ := DataW.trod_int Tryz.underlying3 k3
  simp at h0 h1 h2 h3
  subst h0 h1 h2 h3
  exact ⟨(a0, a1, a2, a3), rfl⟩
set_option maxRecDepth 100000 in
theorem Fr_of_trod {H : Type} {enc : TypeId × Value → H} {w : World} {base : Nat} {held : Bool} {fuel : Nat} {cs : List Value} {x : DataW H × List MemPlace}
    (h : DataW.trod enc Tryz.prog w base (fun _ => true) held fuel 86 cs = some x) : ∃ a n cap zs, cs = [.slice a n cap] ∧ QS clFr zFr w a n cap zs := by
  have e1 : Tryz.prog.cellsOf 240 = 4 := by kernel_rfl
  rcases Deep.open_slice Tryz.underlying86 h with ⟨hcs, _⟩ | ⟨a, len, cap, m, n, D, Pl, hcs, hb, hl, hm, hmm, hx, hd⟩
  · exact ⟨none, 0, 0, [], hcs, rfl, Nat.zero_le _, fun h => absurd rfl h, Nat.le_refl _⟩
  · simp at hmm
    rw [hmm] at hd
    rw [e1] at hd
    obtain ⟨G, hG⟩ := Deep.choose_lt (α := FrT) (p := fun i g => ∃ cs', w.cells? base (a.add (i * 4)) 4 = some cs' ∧ cs' = clFr g) (n := len) (fun i hi => by
      obtain ⟨cs', h1, h2⟩ := hd i (by omega)
      obtain ⟨s, e⟩ := Fr_cells h2
      exact ⟨s, cs', h1, e⟩)
    have hgi : ∀ i, i < len → ((List.range len).map G).getD i zFr = G i := fun i hi => by simp [List.getD_eq_getElem?_getD, hi]
    refine ⟨some a, len, cap, (List.range len).map G, hcs, by simp, by omega, ?_, hl⟩
    intro hn
    obtain ⟨b, off, spot⟩ := a
    have hspot : spot = none := by
      obtain ⟨cs', h1, h2⟩ := hG 0 (by omega)
      have := (World.cells?_some h1).2.2 0 (by omega)
      rw [h2] at this
      simpa [Addr.add, clFr] using World.cell?_spot this
    subst hspot
    refine ⟨b, off, rfl, fun i hi j v hv => ?_⟩
    obtain ⟨cs', h1, h2⟩ := hG i hi
    have hc := (World.cells?_some h1).2.2
    rw [h2] at hc
    rw [hgi i hi] at hv
    simp only [addM] at hc
    have hj : j < 4 := by
      rcases Nat.lt_or_ge j 4 with h | h
      · exact h
      · rw [List.getElem?_eq_none (by rw [clFr_len]; exact h)] at hv; cases hv
    rw [hc j (by omega), ← hv]
theorem array15 {α : Type} {cs : Array α} (h : cs.size = 15) : ∃ c0 c1 c2 c3 c4 c5 c6 c7 c8 c9 c10 c11 c12 c13 c14, cs = #[c0, c1, c2, c3, c4, c5, c6, c7, c8, c9, c10, c11, c12, c13, c14] := by
  obtain ⟨l⟩ := cs
  match l, h with
  | [c0, c1, c2, c3, c4, c5, c6, c7, c8, c9, c10, c11, c12, c13, c14], _ => exact ⟨c0, c1, c2, c3, c4, c5, c6, c7, c8, c9, c10, c11, c12, c13, c14, rfl⟩
theorem config_cells {H : Type} {enc : TypeId × Value → H} {w : World} {base : Nat} {held : Bool} {spare : Nat → Bool} {fuel : Nat} {c0 c1 c2 c3 : Value} {x : DataW H × List MemPlace}
    (h : DataW.trod enc Tryz.prog w base spare held fuel 76 [c0, c1, c2, c3] = some x) : ∃ a0 a1 a2 a3, c0 = .int .i64 a0 ∧ c1 = .int .i64 a1 ∧ c2 = .int .i64 a2 ∧ c3 = .int .i64 a3 := by
  obtain ⟨xs, n, _, _, hl, hlen, hf⟩ := DataW.trod_struct Tryz.underlying76 h
  match xs, hlen with
  | [y0, y1, y2, y3], _ =>
  have k0 := hf 0 _ rfl
  have k1 := hf 1 _ rfl
  have k2 := hf 2 _ rfl
  have k3 := hf 3 _ rfl
  have e3 : Tryz.prog.cellsOf 3 = 1 := by kernel_rfl
  simp [e3] at k0 k1 k2 k3
  obtain ⟨a0, h0, _, _⟩ := DataW.trod_int Tryz.underlying3 k0
  obtain ⟨a1, h1, _, _⟩ := DataW.trod_int Tryz.underlying3 k1
  obtain ⟨a2, h2, _, _⟩ := DataW.trod_int Tryz.underlying3 k2
  obtain ⟨a3, h3, _, _⟩ := DataW.trod_int Tryz.underlying3 k3
  simp at h0 h1 h2 h3
  exact ⟨a0, a1, a2, a3, h0, h1, h2, h3⟩
theorem core_cells {H : Type} {enc : TypeId × Value → H} {w : World} {base : Nat} {held : Bool} {fuel : Nat} {c0 c1 : Value} {x : DataW H × List MemPlace}
    (h : DataW.trod enc Tryz.prog w base (fun _ => true) held fuel 83 [c0, c1] = some x) : ∃ pc a n c zs, c0 = .int .i64 pc ∧ c1 = .slice a n c ∧ IS w a n c zs := by
  obtain ⟨xs, n, _, _, hl, hlen, hf⟩ := DataW.trod_struct Tryz.underlying83 h
  match xs, hlen with
  | [y0, y1], _ =>
  have k0 := hf 0 _ rfl
  have k1 := hf 1 _ rfl
  have e3 : Tryz.prog.cellsOf 3 = 1 := by kernel_rfl
  have e4 : Tryz.prog.cellsOf 24 = 1 := by kernel_rfl
  simp [e3, e4] at k0 k1
  obtain ⟨a0, h0, _, _⟩ := DataW.trod_int Tryz.underlying3 k0
  obtain ⟨a1, n1, d1, x1, h1, b1⟩ := is_of_trod k1
  simp at h0 h1
  exact ⟨a0, a1, n1, d1, x1, h0, h1, b1⟩
theorem mem_cells {H : Type} {enc : TypeId × Value → H} {w : World} {base : Nat} {held : Bool} {fuel : Nat} {c0 c1 c2 : Value} {x : DataW H × List MemPlace}
    (h : DataW.trod enc Tryz.prog w base (fun _ => true) held fuel 84 [c0, c1, c2] = some x) : ∃ a1 n1 d1 x1 a2 n2 d2 x2 a3 n3 d3 x3, c0 = .slice a1 n1 d1 ∧ c1 = .slice a2 n2 d2 ∧ c2 = .slice a3 n3 d3 ∧ BS w a1 n1 d1 x1 ∧ BS w a2 n2 d2 x2 ∧ BS w a3 n3 d3 x3 := by
  obtain ⟨xs, n, _, _, hl, hlen, hf⟩ := DataW.trod_struct Tryz.underlying84 h
  match xs, hlen with
  | [y0, y1, y2], _ =>
  have k0 := hf 0 _ rfl
  have k1 := hf 1 _ rfl
  have k2 := hf 2 _ rfl
  have e3 : Tryz.prog.cellsOf 41 = 1 := by kernel_rfl
  simp [e3] at k0 k1 k2
  obtain ⟨a1, n1, d1, x1, e1, b1⟩ := bs_of_trod k0
  obtain ⟨a2, n2, d2, x2, e2, b2⟩ := bs_of_trod k1
  obtain ⟨a3, n3, d3, x3, e3, b3⟩ := bs_of_trod k2
  simp at e1 e2 e3
  exact ⟨a1, n1, d1, x1, a2, n2, d2, x2, a3, n3, d3, x3, e1, e2, e3, b1, b2, b3⟩
set_option maxRecDepth 100000 in
set_option maxHeartbeats 1000000 in
theorem open_machine {H : Type} {enc : TypeId × Value → H} {w : World} {base b0 : Nat} {held : Bool} {r : Reach} {v : Value} {d : DataW H} {p : List MemPlace}
    (hv : Value.okWide Tryz.prog w r b0 88 v) (h : DataW.Trod enc Tryz.prog w base (fun _ => true) held 88 v d p) :
    ∃ M : Mn, v = .agg #[.slice M.ma M.mn M.mc, .int .i64 M.cs, .int .i64 M.cw, .int .i64 M.ck, .int .i64 M.cd, .int .i64 M.pc, .slice M.ka M.kn M.kc, .slice M.fa M.fn M.fc, .slice M.ra M.rn M.rc, .slice M.oa M.on M.oc, .int .i64 M.md, .int .i64 M.bk, .slice M.la M.ln M.lc, .slice M.ha M.hn M.hc, .int .i64 M.tn] ∧ MnT w M := by
  obtain ⟨cs, rfl, hsz⟩ := okWide_struct Tryz.underlying88 hv
  obtain ⟨c0, c1, c2, c3, c4, c5, c6, c7, c8, c9, c10, c11, c12, c13, c14, rfl⟩ := array15 (hsz.trans (by kernel_rfl))
  obtain ⟨fuel, hf⟩ := h
  obtain ⟨xs, n, _, _, hl, hlen, hf⟩ := DataW.trod_struct Tryz.underlying88 hf
  match xs, hlen with
  | [y0, y1, y2, y3, y4, y5, y6, y7, y8], _ =>
  have k0 := hf 0 _ rfl
  have k1 := hf 1 _ rfl
  have k2 := hf 2 _ rfl
  have k3 := hf 3 _ rfl
  have k4 := hf 4 _ rfl
  have k5 := hf 5 _ rfl
  have k6 := hf 6 _ rfl
  have k7 := hf 7 _ rfl
  have k8 := hf 8 _ rfl
  have e1 : Tryz.prog.cellsOf 3 = 1 := by kernel_rfl
  have e2 : Tryz.prog.cellsOf 22 = 1 := by kernel_rfl
  have e3 : Tryz.prog.cellsOf 76 = 4 := by kernel_rfl
  have e4 : Tryz.prog.cellsOf 83 = 2 := by kernel_rfl
  have e5 : Tryz.prog.cellsOf 84 = 3 := by kernel_rfl
  have e6 : Tryz.prog.cellsOf 85 = 1 := by kernel_rfl
  have e7 : Tryz.prog.cellsOf 86 = 1 := by kernel_rfl
  simp [Value.cells, e1, e2, e3, e4, e5, e6, e7] at k0 k1 k2 k3 k4 k5 k6 k7 k8
  obtain ⟨ma, mn, mc, ms, h0, w0⟩ := ms_of_trod k0
  obtain ⟨cs, cw, ck, cd, h1a, h1b, h1c, h1d⟩ := config_cells k1
  obtain ⟨pc, ka, kn, kc, kz, h2a, h2b, w2⟩ := core_cells k2
  obtain ⟨fa, fn, fc, fz, ra, rn, rc, rz, oa, on, oc, oz, h3a, h3b, h3c, w3, w4, w5⟩ := mem_cells k3
  obtain ⟨md, h4, _, _⟩ := DataW.trod_int Tryz.underlying3 k4
  obtain ⟨bk, h5, _, _⟩ := DataW.trod_int Tryz.underlying3 k5
  obtain ⟨la, ln, lc, lz, h6, w6⟩ := Sl_of_trod k6
  obtain ⟨ha, hn, hc, hz, h7, w7⟩ := Fr_of_trod k7
  obtain ⟨tn, h8, _, _⟩ := DataW.trod_int Tryz.underlying3 k8
  simp at h0 h4 h5 h6 h7 h8
  subst h0 h1a h1b h1c h1d h2a h2b h3a h3b h3c h4 h5 h6 h7 h8
  exact ⟨⟨ma, mn, mc, ms, cs, cw, ck, cd, pc, ka, kn, kc, kz, fa, fn, fc, fz, ra, rn, rc, rz, oa, on, oc, oz, md, bk, la, ln, lc, lz, ha, hn, hc, hz, tn⟩, rfl, w0, w2, w3, w4, w5, w6, w7⟩
end Go.Proofs.YtngdgogjlpjjpaeGreat
