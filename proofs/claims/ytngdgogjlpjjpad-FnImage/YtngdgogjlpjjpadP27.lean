import Derived.Test.YtngdgogjlpjjpadP23
import Derived.Test.YtngdgogjlpjjpadP26
namespace Go.Proofs.Ytngdgogjlpjjpad
open Go.RowKit
set_option linter.unusedVariables false
set_option linter.unusedSimpArgs false
set_option maxRecDepth 100000
theorem ModO.turn {S : Nat → Prop} {W W' : World} {base : Nat} {P : PMod} {a1 : Option Addr} {c1 : Nat} {a2 : Option Addr} {c2 : Nat} {bl : List Bk} {a3 : Option Addr} {c3 : Nat} {a5 : Option Addr} {c5 : Nat} {a6 : Option Addr} {c6 : Nat} {a7 : Option Addr} {c7 : Nat} (h : ModO W base P a1 c1 a2 c2 bl a3 c3 a5 c5 a6 c6 a7 c7) (t : Turn S W W') (hS : ∀ k, S k → ¬ base ≤ k) : ModO W' base P a1 c1 a2 c2 bl a3 c3 a5 c5 a6 c6 a7 c7 :=
  ⟨h.t.turn t hS, h.b.turn t hS, h.bls, turn_ob t h.d (fun k hk s => hS k s (h.d.lt k hk).1), h.r.turn t hS, h.i.turn t hS, h.e.turn t hS, h.tb, h.tr, h.br⟩
theorem ModO.mono {W : World} {base base' : Nat} {P : PMod} {a1 : Option Addr} {c1 : Nat} {a2 : Option Addr} {c2 : Nat} {bl : List Bk} {a3 : Option Addr} {c3 : Nat} {a5 : Option Addr} {c5 : Nat} {a6 : Option Addr} {c6 : Nat} {a7 : Option Addr} {c7 : Nat} (h : ModO W base P a1 c1 a2 c2 bl a3 c3 a5 c5 a6 c6 a7 c7) (hb : base' ≤ base) : ModO W base' P a1 c1 a2 c2 bl a3 c3 a5 c5 a6 c6 a7 c7 :=
  ⟨h.t.mono hb, h.b.mono hb, h.bls, h.d.mono hb, h.r.mono hb, h.i.mono hb, h.e.mono hb, h.tb, h.tr, h.br⟩
theorem turn_st8 (W : World) (k : Nat) (v0 v1 v2 v3 v4 v5 v6 v7 : Value) : Turn (fun j => j = k) W (st8 W k v0 v1 v2 v3 v4 v5 v6 v7) :=
  ((((((((turn_set W k 0 v0).trans (turn_set _ k 1 v1)).trans (turn_set _ k 2 v2)).trans (turn_set _ k 3 v3)).trans (turn_set _ k 4 v4)).trans (turn_set _ k 5 v5)).trans (turn_set _ k 6 v6)).trans (turn_set _ k 7 v7))
theorem blk_st8 {W : World} {k : Nat} {t : TypeId} {cs : Array Value} (h : Blk W k cs t) (hs : cs.size = 8) (v0 v1 v2 v3 v4 v5 v6 v7 : Value) : Blk (st8 W k v0 v1 v2 v3 v4 v5 v6 v7) k #[v0, v1, v2, v3, v4, v5, v6, v7] t := by
  obtain ⟨z0, z1, z2, z3, z4, z5, z6, z7, rfl⟩ := array8' hs
  have k := (((((((h.set 0 v0).set 1 v1).set 2 v2).set 3 v3).set 4 v4).set 5 v5).set 6 v6).set 7 v7
  have e : (((((((#[z0, z1, z2, z3, z4, z5, z6, z7].setIfInBounds 0 v0).setIfInBounds 1 v1).setIfInBounds 2 v2).setIfInBounds 3 v3).setIfInBounds 4 v4).setIfInBounds 5 v5).setIfInBounds 6 v6).setIfInBounds 7 v7 = #[v0, v1, v2, v3, v4, v5, v6, v7] := by simp
  rw [e] at k
  exact k
theorem RdI.turn {S : Nat → Prop} {W W' : World} {g b n cap : Nat} {zs r : List Int} (h : RdI W g b n cap zs r) (t : Turn S W W') (hg : ¬ S g) (hb : ¬ S b) : RdI W' g b n cap zs r := by
  obtain ⟨k', a, p1, p2, p3, p4⟩ := h.pos
  exact ⟨⟨k', a, p1, p2, turn_blk t p3 hg, p4⟩, turn_bs t h.bs (fun j hj b' off e => by simp at e; intro e'; apply hb; rw [e.1, e']; exact hj), h.ne, h.small⟩
def PaPost (w : World) (p : Int × Option PMod) (e : Ending) (w' : World) : Prop := Below w.heap.size w w' ∧ match p.2 with
  | none => e = .returned (.tuple #[.agg z8, .int .i64 p.1])
  | some P => ∃ a1 c1 a2 c2 bl a3 c3 a5 c5 a6 c6 a7 c7, e = .returned (.tuple #[.agg (modV P a1 c1 a2 c2 bl a3 c3 a5 c5 a6 c6 a7 c7), .int .i64 p.1]) ∧ ModO w' w.heap.size P a1 c1 a2 c2 bl a3 c3 a5 c5 a6 c6 a7 c7
structure Pf (w W : World) (ms : Array Value) (x : Value) : Prop where
  m : Blk W w.heap.size ms 29
  s : ms.size = 8
  c : Blk W (w.heap.size + 1) #[x] 3
  b : Below w.heap.size w W
theorem Pf.turn {w W W' : World} {ms : Array Value} {x : Value} (h : Pf w W ms x) (t : Turn (fun j => j = w.heap.size + 2) W W') : Pf w W' ms x :=
  ⟨turn_blk t h.m (by omega), h.s, turn_blk t h.c (by omega), below_turn h.b t (fun k hk => by omega) h.b.size⟩
theorem Pf.below {w W W' : World} {ms : Array Value} {x : Value} (h : Pf w W ms x) (hb : Below W.heap.size W W') : Pf w W' ms x :=
  ⟨h.m.below hb, h.s, h.c.below hb, h.b.trans (hb.mono h.b.size)⟩
theorem Pf.laid {w W : World} {ms : Array Value} {x : Value} (h : Pf w W ms x) (c : Int) : Below w.heap.size w (caught W w.heap.size (w.heap.size + 1) c) ∧ Blk (caught W w.heap.size (w.heap.size + 1) c) w.heap.size z8 29 ∧ Blk (caught W w.heap.size (w.heap.size + 1) c) (w.heap.size + 1) #[.int .i64 c] 3 := by
  unfold caught
  have t1 := turn_st8 W w.heap.size (.string ⟨#[]⟩) (.slice none 0 0) (.slice none 0 0) (.slice none 0 0) (.int .i64 0) (.slice none 0 0) (.slice none 0 0) (.slice none 0 0)
  have m1 := blk_st8 h.m h.s (.string ⟨#[]⟩) (.slice none 0 0) (.slice none 0 0) (.slice none 0 0) (.int .i64 0) (.slice none 0 0) (.slice none 0 0) (.slice none 0 0)
  have c1 := turn_blk t1 h.c (by omega)
  have b1 := below_turn h.b t1 (fun k hk => by omega) h.b.size
  refine ⟨below_turn b1 (turn_set _ (w.heap.size + 1) 0 _) (fun k hk => by omega) b1.size, m1.other _ _ (by show w.heap.size ≠ w.heap.size + 1; omega), ?_⟩
  simpa using c1.set 0 (.int .i64 c)
theorem z8_cells {W : World} {k : Nat} (h : Blk W k z8 29) : W.cell? ⟨k, 0, none⟩ = some (.string ⟨#[]⟩) ∧ W.cell? ⟨k, 1, none⟩ = some (.slice none 0 0) ∧ W.cell? ⟨k, 2, none⟩ = some (.slice none 0 0) ∧ W.cell? ⟨k, 3, none⟩ = some (.slice none 0 0) ∧ W.cell? ⟨k, 4, none⟩ = some (.int .i64 0) ∧ W.cell? ⟨k, 5, none⟩ = some (.slice none 0 0) ∧ W.cell? ⟨k, 6, none⟩ = some (.slice none 0 0) ∧ W.cell? ⟨k, 7, none⟩ = some (.slice none 0 0) := Blk.eight' h
set_option maxHeartbeats 1000000 in
theorem door_panic (w W : World) (ms : Array Value) (x : Value) (c : Int) (p : Int × Option PMod) (tmps : Array Value) (h2 : tmps[2]? = some (.pointer (some ⟨w.heap.size, 0, none⟩))) (h3 : tmps[3]? = some (.pointer (some ⟨w.heap.size + 1, 0, none⟩))) (F : Pf w W ms x) (hp : p = (c, none)) :
    bodyPostD Try.prog Try.f7 (PaPost w p) (Exit.panic [{ v := .iface 59 (.int .i64 c), recovered := false }]) ⟨tmps, [{ target := .fn (.func 27) #[.pointer (some ⟨w.heap.size, 0, none⟩), .pointer (some ⟨w.heap.size + 1, 0, none⟩)], args := #[] }]⟩ W := by
  obtain ⟨l1, l2, l3⟩ := F.laid c
  refine leaves_cons (f := 27) (args := #[.pointer (some ⟨w.heap.size, 0, none⟩), .pointer (some ⟨w.heap.size + 1, 0, none⟩)]) (by simp) (by simp [go_sem]) ?_
  refine (catch_panic w.heap.size (w.heap.size + 1) c [] ms x W F.m F.s F.c).mono ?_
  rintro e u' w'' ⟨rfl, rfl, rfl⟩
  subst hp
  generalize caught W w.heap.size (w.heap.size + 1) c = V at *
  obtain ⟨t0, t1, t2, t3, t4, t5, t6, t7⟩ := z8_cells l2
  have u0 := l3.cell 0
  simp at u0
  have HB := hide l1
  simp [Leaves, settle, results, Try.results7, go_sem, h2, h3, t0, t1, t2, t3, t4, t5, t6, t7, u0]
  exact ⟨HB.out.drew, rfl⟩
set_option maxHeartbeats 1000000 in
theorem door_ret (w W : World) (v0 v1 v2 v3 v4 v5 v6 v7 : Value) (c : Int) (Q : Ending → World → Prop) (tmps : Array Value) (h2 : tmps[2]? = some (.pointer (some ⟨w.heap.size, 0, none⟩))) (h3 : tmps[3]? = some (.pointer (some ⟨w.heap.size + 1, 0, none⟩))) (hm : Blk W w.heap.size #[v0, v1, v2, v3, v4, v5, v6, v7] 29) (hc : Blk W (w.heap.size + 1) #[.int .i64 c] 3) (hQ : Q (.returned (.tuple #[.agg #[v0, v1, v2, v3, v4, v5, v6, v7], .int .i64 c])) W) :
    bodyPostD Try.prog Try.f7 Q Exit.ret ⟨tmps, [{ target := .fn (.func 27) #[.pointer (some ⟨w.heap.size, 0, none⟩), .pointer (some ⟨w.heap.size + 1, 0, none⟩)], args := #[] }]⟩ W := by
  refine leaves_cons (f := 27) (args := #[.pointer (some ⟨w.heap.size, 0, none⟩), .pointer (some ⟨w.heap.size + 1, 0, none⟩)]) (by simp) (by simp [go_sem]) ?_
  refine (catch_idle w.heap.size (w.heap.size + 1) W).mono ?_
  rintro e u' w'' ⟨rfl, rfl, rfl⟩
  obtain ⟨t0, t1, t2, t3, t4, t5, t6, t7⟩ := hm.eight'
  have u0 := hc.cell 0
  simp at u0
  simp [Leaves, settle, results, Try.results7, go_sem, h2, h3, t0, t1, t2, t3, t4, t5, t6, t7, u0]
  exact hQ
theorem mdo_range (nm : ByteArray) (tn : Nat) (tz : List Int) (bn : Nat) (bl : List Bk) (dn : Nat) (bss : Int) (rn : Nat) (rz : List Int) (im : Nat) (ss : List ByteArray) (en : Nat) (es : List Ex) : 0 ≤ mdo nm tn tz bn bl dn bss rn rz im ss en es ∧ mdo nm tn tz bn bl dn bss rn rz im ss en es ≤ 6 := by
  unfold mdo
  split
  · omega
  split
  · omega
  split
  · omega
  split
  · omega
  split
  · omega
  split <;> omega
set_option maxHeartbeats 2000000 in
theorem iParseModule_any (b n cap : Nat) (zs : List Int) (w : World) (h : BS w (some ⟨b, 0, none⟩) n cap zs) (hn : n ≤ 1048576) (hb : b < w.heap.size) :
    Calls Try.prog 7 #[.slice (some ⟨b, 0, none⟩) n cap] w (PaPost w (prs zs)) := by
  have hmf : ∀ (fn : Fn) (first cap : Array Value) (w : World), (Instr.makeFunc fn first cap).run Try.prog w = .ok (.func fn first cap) w := fun _ _ _ _ => rfl
  have hl := h.1
  obtain ⟨W0, hW0⟩ : ∃ W0, W0 = ((w.alloc (.cells #[.string ⟨#[]⟩, .slice none 0 0, .slice none 0 0, .slice none 0 0, .int .i64 0, .slice none 0 0, .slice none 0 0, .slice none 0 0] 29)).alloc (.cells #[.int .i64 0] 3)).alloc (.cells #[.slice (some ⟨b, 0, none⟩) n cap] 61) := ⟨_, rfl⟩
  have F0 : Pf w W0 z8 (.int .i64 0) ∧ RdI W0 (w.heap.size + 2) b n cap zs zs := by
    subst hW0
    have b1 : Below w.heap.size w (w.alloc (.cells #[.string ⟨#[]⟩, .slice none 0 0, .slice none 0 0, .slice none 0 0, .int .i64 0, .slice none 0 0, .slice none 0 0, .slice none 0 0] 29)) := (Below.refl _ _).alloc (Nat.le_refl _) _
    have k1 := Blk.new w #[.string ⟨#[]⟩, .slice none 0 0, .slice none 0 0, .slice none 0 0, .int .i64 0, .slice none 0 0, .slice none 0 0, .slice none 0 0] 29
    have hs1 : (w.alloc (.cells #[.string ⟨#[]⟩, .slice none 0 0, .slice none 0 0, .slice none 0 0, .int .i64 0, .slice none 0 0, .slice none 0 0, .slice none 0 0] 29)).heap.size = w.heap.size + 1 := by simp
    generalize w.alloc (.cells #[.string ⟨#[]⟩, .slice none 0 0, .slice none 0 0, .slice none 0 0, .int .i64 0, .slice none 0 0, .slice none 0 0, .slice none 0 0] 29) = W1 at *
    have b2 : Below W1.heap.size W1 (W1.alloc (.cells #[.int .i64 0] 3)) := (Below.refl _ _).alloc (Nat.le_refl _) _
    have k2 := Blk.new W1 #[.int .i64 0] 3
    have hs2 : (W1.alloc (.cells #[.int .i64 0] 3)).heap.size = w.heap.size + 2 := by simp [hs1]
    rw [hs1] at k2
    have k1 := k1.below b2
    have b1 := b1.trans (b2.mono (by omega))
    generalize W1.alloc (.cells #[.int .i64 0] 3) = W2 at *
    have b3 : Below W2.heap.size W2 (W2.alloc (.cells #[.slice (some ⟨b, 0, none⟩) n cap] 61)) := (Below.refl _ _).alloc (Nat.le_refl _) _
    have k3 := Blk.new W2 #[.slice (some ⟨b, 0, none⟩) n cap] 61
    rw [hs2] at k3
    have hB := b1.trans (b3.mono (by omega))
    exact ⟨⟨k1.below b3, rfl, k2.below b3, hB⟩, ⟨⟨0, 0, Nat.zero_le _, rfl, k3, fun _ => rfl⟩, h.below hB, by omega, hn⟩⟩
  obtain ⟨P0, R0⟩ := F0
  have HB0 := hide (begin_rd (w.heap.size + 2) b n cap zs W0 R0)
  have HPR : Hid (prs zs = if 20000 < zs.length then (3, none) else if mark zs = false then (1, none) else match pMod (zs.drop 2) with
    | none => (2, none)
    | some x => if x.2 ≠ [] then (3, none) else if mdoP x.1 ≠ 0 then (10 + mdoP x.1, none) else (0, some x.1)) := rfl
  have HBY := hide (show Byt zs from h.2.2.1)
  have HPAN := hide (fun (W : World) (ms : Array Value) (x : Value) (c : Int) (F : Pf w W ms x) => catch_panic w.heap.size (w.heap.size + 1) c [] ms x W F.m F.s F.c)
  clear h
  go_enter_defers Try.func7, Try.ntmps7
  go_wp2_with fail
  rw [← hW0]
  refine HB0.out.mono ?_
  rintro e w1 ⟨T1, H⟩
  have P1 := P0.turn T1
  rcases H with ⟨c1, rfl⟩ | ⟨c1, c2, rfl⟩ | ⟨c1, c2, rfl, R1⟩
  · have HP := hide (show prs zs = (3, none) by rw [HPR.out, if_pos (by omega)])
    have HF := hide P1
    unfold panicE
    clear P0 R0 T1 P1 HB0 hW0 HPR
    go_wp2
    exact door_panic w w1 _ _ 3 _ _ rfl rfl HF.out HP.out
  · have HP := hide (show prs zs = (1, none) by rw [HPR.out, if_neg (by omega), if_pos c2])
    have HF := hide P1
    unfold panicE
    clear P0 R0 T1 P1 HB0 hW0 HPR
    go_wp2
    exact door_panic w w1 _ _ 1 _ _ rfl rfl HF.out HP.out
  · have hP := HPR.out
    rw [if_neg (by omega), if_neg (by rw [c2]; decide)] at hP
    have HP1 := hide hP
    clear hP HPR P0 R0 T1 HB0 hW0
    go_wp2_with fail
    refine (module_rd (w.heap.size + 2) b n cap zs (zs.drop 2) w1 R1).mono ?_
    intro e w2 H
    cases hp : pMod (zs.drop 2) with
    | none =>
      obtain ⟨T2, rfl⟩ := H.none hp
      have HP := hide (show prs zs = (2, none) by rw [HP1.out, hp])
      have HF := hide (P1.turn T2)
      unfold panicE
      clear H T2 P1 R1 HP1
      go_wp2
      exact door_panic w w2 _ _ 2 _ _ rfl rfl HF.out HP.out
    | some x =>
      obtain ⟨P, r⟩ := x
      obtain ⟨T2, v, rfl, ⟨a1, d1, a2, d2, bl, a3, d3, a5, d5, a6, d6, a7, d7, rfl, MO⟩, R2⟩ := H.some hp
      have hP := HP1.out
      rw [hp] at hP
      dsimp only at hP
      have HP2 := hide hP
      have hR := (pm_of (HBY.out.drop 2) hp).1
      have P2 := P1.turn T2
      have hb1 : w.heap.size < w1.heap.size := P1.m.lt
      have hb2 : w.heap.size + 1 < w1.heap.size := P1.c.lt
      obtain ⟨p0, p1, p2, p3, p4, p5, p6, p7⟩ := z8_cells P2.m
      obtain ⟨f0, f1, f2, f3, f4, f5, f6, f7⟩ := P2.m.froz
      have t3 := turn_st8 w2 w.heap.size (.string P.nm) (.slice a1 P.tz.length d1) (.slice a2 bl.length d2) (.slice a3 P.dz.length d3) (.int .i64 P.bss) (.slice a5 P.rz.length d5) (.slice a6 P.ss.length d6) (.slice a7 P.es.length d7)
      have P3 : Pf w (st8 w2 w.heap.size (.string P.nm) (.slice a1 P.tz.length d1) (.slice a2 bl.length d2) (.slice a3 P.dz.length d3) (.int .i64 P.bss) (.slice a5 P.rz.length d5) (.slice a6 P.ss.length d6) (.slice a7 P.es.length d7)) #[.string P.nm, .slice a1 P.tz.length d1, .slice a2 bl.length d2, .slice a3 P.dz.length d3, .int .i64 P.bss, .slice a5 P.rz.length d5, .slice a6 P.ss.length d6, .slice a7 P.es.length d7] (.int .i64 0) := ⟨blk_st8 P2.m P2.s _ _ _ _ _ _ _ _, rfl, turn_blk t3 P2.c (by omega), below_turn P2.b t3 (fun k hk => by omega) P2.b.size⟩
      have R3 := R2.turn t3 (by omega) (by omega)
      have MO3 := MO.turn t3 (fun k hk => by omega)
      have HE := hide (end_rd (w.heap.size + 2) b n cap zs r _ R3)
      clear H T2 P1 R1 R2 R3 P2 MO t3 HP1 hP
      unfold modV
      go_wp2_with fail
      refine HE.out.mono ?_
      rintro e w3 ⟨rfl, H⟩
      rcases H with ⟨hr, rfl⟩ | ⟨hr, rfl⟩
      · subst hr
        have hP := HP2.out
        rw [if_neg (by simp)] at hP
        have HP3 := hide hP
        have md := MO3.md hR
        have HMD := hide MO3.mdo
        obtain ⟨s0, s1, s2, s3, s4, s5, s6, s7⟩ := P3.m.eight'
        have HOK := hide (iModuleOk_any _ _ _ _ _ _ _ _ _ _ _ _ _ _ _ _ _ _ _ _ _ _ _ _ _ _ _ md)
        clear HE HP2 hP p0 p1 p2 p3 p4 p5 p6 p7 f0 f1 f2 f3 f4 f5 f6 f7 md
        have hmr := mdo_range P.nm P.tz.length P.tz bl.length bl P.dz.length P.bss P.rz.length P.rz P.ss.length P.ss P.es.length P.es
        rw [HMD.out] at HOK hmr
        generalize st8 w2 w.heap.size (.string P.nm) (.slice a1 P.tz.length d1) (.slice a2 bl.length d2) (.slice a3 P.dz.length d3) (.int .i64 P.bss) (.slice a5 P.rz.length d5) (.slice a6 P.ss.length d6) (.slice a7 P.es.length d7) = W3 at *
        go_wp2_with fail
        refine HOK.out.mono ?_
        rintro e w4 ⟨rfl, hb4⟩
        have P4 := P3.below hb4
        have MO4 := MO3.turn (S := fun _ => False) (turn_below hb4) (fun k hk => absurd hk id)
        clear hb4 P3 MO3 HOK s0 s1 s2 s3 s4 s5 s6 s7 HMD
        by_cases hz : mdoP P = 0
        · have HP := hide (show prs zs = (0, some P) by rw [HP3.out, if_neg (by simp [hz])])
          rw [hz]
          obtain ⟨s0, s1, s2, s3, s4, s5, s6, s7⟩ := P4.m.eight'
          obtain ⟨f0, f1, f2, f3, f4, f5, f6, f7⟩ := P4.m.froz
          have q0 := P4.c.cell 0
          have q1 := P4.c.frozen 0
          simp at q0
          have t5 := turn_st8 w4 w.heap.size (.string P.nm) (.slice a1 P.tz.length d1) (.slice a2 bl.length d2) (.slice a3 P.dz.length d3) (.int .i64 P.bss) (.slice a5 P.rz.length d5) (.slice a6 P.ss.length d6) (.slice a7 P.es.length d7)
          have m5 := blk_st8 P4.m P4.s (.string P.nm) (.slice a1 P.tz.length d1) (.slice a2 bl.length d2) (.slice a3 P.dz.length d3) (.int .i64 P.bss) (.slice a5 P.rz.length d5) (.slice a6 P.ss.length d6) (.slice a7 P.es.length d7)
          have c5 := turn_blk t5 P4.c (by omega)
          have b5 := below_turn P4.b t5 (fun k hk => by omega) P4.b.size
          have MO5 := MO4.turn t5 (fun k hk => by omega)
          have t6 := turn_set (st8 w4 w.heap.size (.string P.nm) (.slice a1 P.tz.length d1) (.slice a2 bl.length d2) (.slice a3 P.dz.length d3) (.int .i64 P.bss) (.slice a5 P.rz.length d5) (.slice a6 P.ss.length d6) (.slice a7 P.es.length d7)) (w.heap.size + 1) 0 (.int .i64 0)
          have m6 := turn_blk t6 m5 (by omega)
          have c6 := c5.set 0 (.int .i64 0)
          have b6 := below_turn b5 t6 (fun k hk => by omega) b5.size
          have MO6 := (MO5.turn t6 (fun k hk => by omega)).mono (Nat.le_of_lt hb1)
          simp at c6
          have HF := hide (And.intro m6 (And.intro c6 (And.intro b6 MO6)))
          clear t5 m5 c5 b5 MO5 t6 m6 c6 b6 MO6 P4 MO4 HP3
          go_wp2
          refine door_ret w _ _ _ _ _ _ _ _ _ 0 _ _ rfl rfl HF.out.1 HF.out.2.1 ?_
          rw [HP.out]
          exact ⟨HF.out.2.2.1, a1, d1, a2, d2, bl, a3, d3, a5, d5, a6, d6, a7, d7, rfl, HF.out.2.2.2⟩
        · have HP := hide (show prs zs = (10 + mdoP P, none) by rw [HP3.out, if_pos hz])
          have HF := hide P4
          generalize mdoP P = V at *
          obtain ⟨hv0, hv1⟩ := hmr
          clear P4 MO4 HP3
          go_wp2
          exact door_panic w _ _ _ _ _ _ rfl rfl HF.out HP.out
      · have HP := hide (show prs zs = (3, none) by rw [HP2.out, if_pos hr])
        have HF := hide P3
        unfold panicE
        clear P3 MO3 HP2 HE p0 p1 p2 p3 p4 p5 p6 p7 f0 f1 f2 f3 f4 f5 f6 f7
        go_wp2
        exact door_panic w _ _ _ 3 _ _ rfl rfl HF.out HP.out
end Go.Proofs.Ytngdgogjlpjjpad
