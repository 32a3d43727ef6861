import Derived.Test.YtngdgogjlpjjpacJ28
import Derived.Recover
import Derived.Defers
namespace Go.Proofs.Ytngdgogjlpjjpac
open Go.RowKit
set_option linter.unusedVariables false
set_option linter.unusedSimpArgs false
set_option maxRecDepth 100000

theorem pMod_eq (zs : List Int) : pMod zs = (pT zs).bind fun a => (pL a.2).bind fun b => (pN 1 b.2).bind fun nb => (pM pL nb.1.toNat nb.2).bind fun c => (pN 2 c.2).bind fun nd => (pB nd.1.toNat nd.2).bind fun d => (pN 2 d.2).bind fun e => (pN 1 e.2).bind fun nr => (pM (pN 2) nr.1.toNat nr.2).bind fun f => (pN 1 f.2).bind fun ni => (pM pT ni.1.toNat ni.2).bind fun g => (pN 1 g.2).bind fun ne => (pM pX ne.1.toNat ne.2).map fun h => (⟨a.1, b.1, c.1, d.1, e.1, f.1, g.1, h.1⟩, h.2) := rfl
theorem OBk.mono {w : World} {base base' : Nat} {v : Value} {bl : List Bk} (h : OBk w base v bl) (hb : base' ≤ base) : OBk w base' v bl := by
  refine ⟨?_, fun B hB => ⟨(h.rows B hB).1, (h.rows B hB).2.mono hb⟩, h.apart⟩
  obtain ⟨hl, h0 | ⟨g, cap, cur, hv, hg, hh, h1, h2, h3, h4⟩⟩ := h.head
  · exact ⟨hl, .inl h0⟩
  · exact ⟨hl, .inr ⟨g, cap, cur, hv, by omega, hh, h1, h2, h3, h4⟩⟩
/-- what is not touched by a reading, nor by a store into the box -/
structure Stay (w : World) (g : Nat) (A : World → Prop) : Prop where
  turn : ∀ W W', A W → Turn (fun j => j = g) W W' → A W'
  set : ∀ W k i v, k ≤ w.heap.size + 1 → A W → A (W.setCell ⟨k, i, none⟩ v)
theorem Stay.and {w : World} {g : Nat} {A B : World → Prop} (a : Stay w g A) (b : Stay w g B) : Stay w g (fun W => A W ∧ B W) :=
  ⟨fun W W' h t => ⟨a.turn W W' h.1 t, b.turn W W' h.2 t⟩, fun W k i v hk h => ⟨a.set W k i v hk h.1, b.set W k i v hk h.2⟩⟩
theorem stay_og {α : Type} {t : TypeId} {sz : Nat} {f : α → List Value} {w : World} {g base : Nat} {v : Value} {xs : List α} (hg : g < w.heap.size) (hb : w.heap.size + 2 ≤ base) : Stay w g (fun W => OG t sz f W base v xs) :=
  ⟨fun W W' h t => h.turn t (fun k hk => by omega), fun W k i u hk h => h.turn (turn_set W k i u) (fun j hj => by omega)⟩
theorem stay_obk {w : World} {g base : Nat} {v : Value} {bl : List Bk} (hg : g < w.heap.size) (hb : w.heap.size + 2 ≤ base) : Stay w g (fun W => OBk W base v bl) :=
  ⟨fun W W' h t => h.turn t (fun k hk => by omega), fun W k i u hk h => h.turn (turn_set W k i u) (fun j hj => by omega)⟩
theorem stay_ob {w : World} {g base : Nat} {v : Value} {zs : List Int} (hg : g < w.heap.size) (hb : w.heap.size + 2 ≤ base) : Stay w g (fun W => OB W base v zs) :=
  ⟨fun W W' h t => turn_ob t h (fun k hk e => by have := (h.lt k hk).1; omega), fun W k i u hk h => turn_ob (turn_set W k i u) h (fun j hj e => by have := (h.lt j hj).1; omega)⟩
theorem stay_p {w : World} {g : Nat} {P : Prop} : Stay w g (fun _ => P) := ⟨fun _ _ h _ => h, fun _ _ _ _ _ h => h⟩
/-- eight cells of a box -/
def st8 (W : World) (k : Nat) (v0 v1 v2 v3 v4 v5 v6 v7 : Value) : World := (((((((W.setCell ⟨k, 0, none⟩ v0).setCell ⟨k, 1, none⟩ v1).setCell ⟨k, 2, none⟩ v2).setCell ⟨k, 3, none⟩ v3).setCell ⟨k, 4, none⟩ v4).setCell ⟨k, 5, none⟩ v5).setCell ⟨k, 6, none⟩ v6).setCell ⟨k, 7, none⟩ v7
theorem Stay.st8 {w W : World} {g : Nat} {A : World → Prop} (a : Stay w g A) (h : A W) (v0 v1 v2 v3 v4 v5 v6 v7 : Value) : A (st8 W w.heap.size v0 v1 v2 v3 v4 v5 v6 v7) :=
  a.set _ _ _ _ (by omega) (a.set _ _ _ _ (by omega) (a.set _ _ _ _ (by omega) (a.set _ _ _ _ (by omega) (a.set _ _ _ _ (by omega) (a.set _ _ _ _ (by omega) (a.set _ _ _ _ (by omega) (a.set _ _ _ _ (by omega) h)))))))
theorem Es.st8 {w W : World} {g b n cap : Nat} {zs r : List Int} {t : TypeId} {z0 z1 z2 z3 z4 z5 z6 z7 : Value} {cs : Array Value} (h : Es w W g b n cap zs r t #[z0, z1, z2, z3, z4, z5, z6, z7] cs) (v0 v1 v2 v3 v4 v5 v6 v7 : Value) :
    RdI (st8 W w.heap.size v0 v1 v2 v3 v4 v5 v6 v7) g b n cap zs r ∧ Turn (fun j => j = g) w (st8 W w.heap.size v0 v1 v2 v3 v4 v5 v6 v7) ∧ Blk (st8 W w.heap.size v0 v1 v2 v3 v4 v5 v6 v7) w.heap.size #[v0, v1, v2, v3, v4, v5, v6, v7] t := by
  have l1 : w.heap.size ≠ g := by have := h.lo.1; omega
  have l2 : n ≠ 0 → b ≠ w.heap.size := fun hn => by have := h.lo.2 hn; omega
  refine ⟨(((((((h.rd.other l1 l2).other l1 l2).other l1 l2).other l1 l2).other l1 l2).other l1 l2).other l1 l2).other l1 l2, ?_, ?_⟩
  · exact turn_new' (turn_new' (turn_new' (turn_new' (turn_new' (turn_new' (turn_new' (turn_new' h.tu (Nat.le_refl _) _ _) (Nat.le_refl _) _ _) (Nat.le_refl _) _ _) (Nat.le_refl _) _ _) (Nat.le_refl _) _ _) (Nat.le_refl _) _ _) (Nat.le_refl _) _ _) (Nat.le_refl _) _ _
  · have k := (((((((h.k1.set 0 v0).set 1 v1).set 2 v2).set 3 v3).set 4 v4).set 5 v5).set 6 v6).set 7 v7
    have e : (((((((#[z0, z1, z2, z3, z4, z5, z6, z7].setIfInBounds 0 v0).setIfInBounds 1 v1).setIfInBounds 2 v2).setIfInBounds 3 v3).setIfInBounds 4 v4).setIfInBounds 5 v5).setIfInBounds 6 v6).setIfInBounds 7 v7 = #[v0, v1, v2, v3, v4, v5, v6, v7] := by simp
    rw [e] at k
    exact k
theorem Blk.eight' {w : World} {g : Nat} {v0 v1 v2 v3 v4 v5 v6 v7 : Value} {t : TypeId} (h : Blk w g #[v0, v1, v2, v3, v4, v5, v6, v7] t) : w.cell? ⟨g, 0, none⟩ = some v0 ∧ w.cell? ⟨g, 1, none⟩ = some v1 ∧ w.cell? ⟨g, 2, none⟩ = some v2 ∧ w.cell? ⟨g, 3, none⟩ = some v3 ∧ w.cell? ⟨g, 4, none⟩ = some v4 ∧ w.cell? ⟨g, 5, none⟩ = some v5 ∧ w.cell? ⟨g, 6, none⟩ = some v6 ∧ w.cell? ⟨g, 7, none⟩ = some v7 :=
  ⟨h.cell 0, h.cell 1, h.cell 2, h.cell 3, h.cell 4, h.cell 5, h.cell 6, h.cell 7⟩
theorem Blk.froz {w : World} {g : Nat} {cs : Array Value} {t : TypeId} (h : Blk w g cs t) : w.frozen? ⟨g, 0, none⟩ = false ∧ w.frozen? ⟨g, 1, none⟩ = false ∧ w.frozen? ⟨g, 2, none⟩ = false ∧ w.frozen? ⟨g, 3, none⟩ = false ∧ w.frozen? ⟨g, 4, none⟩ = false ∧ w.frozen? ⟨g, 5, none⟩ = false ∧ w.frozen? ⟨g, 6, none⟩ = false ∧ w.frozen? ⟨g, 7, none⟩ = false :=
  ⟨h.frozen 0, h.frozen 1, h.frozen 2, h.frozen 3, h.frozen 4, h.frozen 5, h.frozen 6, h.frozen 7⟩
/-- A MODULE THAT WAS READ: its rows are of the call's own, and lie apart. -/
structure ModO (W : World) (base : Nat) (P : PMod) (a1 : Option Addr) (c1 : Nat) (a2 : Option Addr) (c2 : Nat) (bl : List Bk) (a3 : Option Addr) (c3 : Nat) (a5 : Option Addr) (c5 : Nat) (a6 : Option Addr) (c6 : Nat) (a7 : Option Addr) (c7 : Nat) : Prop where
  t : OG 3 1 clI W base (.slice a1 P.tz.length c1) P.tz
  b : OBk W base (.slice a2 bl.length c2) bl
  bls : bl.map (fun B => B.2.2.2) = P.bl
  d : OB W base (.slice a3 P.dz.length c3) P.dz
  r : OG 3 1 clI W base (.slice a5 P.rz.length c5) P.rz
  i : OG 9 1 clT W base (.slice a6 P.ss.length c6) P.ss
  e : OG 86 3 clX W base (.slice a7 P.es.length c7) P.es
  tb : ∀ k, (Value.slice a1 P.tz.length c1).ownBlock = some k → ∀ B ∈ bl, (Value.slice B.1 B.2.1 B.2.2.1).ownBlock ≠ some k
  tr : ∀ k, (Value.slice a1 P.tz.length c1).ownBlock = some k → (Value.slice a5 P.rz.length c5).ownBlock ≠ some k
  br : ∀ k, (Value.slice a5 P.rz.length c5).ownBlock = some k → ∀ B ∈ bl, (Value.slice B.1 B.2.1 B.2.2.1).ownBlock ≠ some k
def modV (P : PMod) (a1 : Option Addr) (c1 : Nat) (a2 : Option Addr) (c2 : Nat) (bl : List Bk) (a3 : Option Addr) (c3 : Nat) (a5 : Option Addr) (c5 : Nat) (a6 : Option Addr) (c6 : Nat) (a7 : Option Addr) (c7 : Nat) : Array Value := #[.string P.nm, .slice a1 P.tz.length c1, .slice a2 bl.length c2, .slice a3 P.dz.length c3, .int .i64 P.bss, .slice a5 P.rz.length c5, .slice a6 P.ss.length c6, .slice a7 P.es.length c7]
def isMod (base : Nat) (P : PMod) (v : Value) (w : World) : Prop := ∃ a1 c1 a2 c2 bl a3 c3 a5 c5 a6 c6 a7 c7, v = .agg (modV P a1 c1 a2 c2 bl a3 c3 a5 c5 a6 c6 a7 c7) ∧ ModO w base P a1 c1 a2 c2 bl a3 c3 a5 c5 a6 c6 a7 c7

set_option maxHeartbeats 8000000 in
theorem module_rd (g b n cap : Nat) (zs r : List Int) (w : World) (h : RdI w g b n cap zs r) :
    Calls Try.prog 90 #[.pointer (some ⟨g, 0, none⟩)] w (RP w g b n cap zs (isMod w.heap.size) (pMod r)) := by
  have E := Es.new (t := 56) (z := #[.string ⟨#[]⟩, .slice none 0 0, .slice none 0 0, .slice none 0 0, .int .i64 0, .slice none 0 0, .slice none 0 0, .slice none 0 0]) h
  have hmf : ∀ (fn : Fn) (first cap : Array Value) (w : World), (Instr.makeFunc fn first cap).run Try.prog w = .ok (.func fn first cap) w := fun _ _ _ _ => rfl
  have HN := hide (fun w r h => number_rd g b n cap zs r 1 w h (Or.inl rfl))
  have HE := hide (pMod_eq r)
  have hA : (fun _ : World => True) w := trivial
  have st : Stay w g (fun _ => True) := stay_p
  have hg := h.lts.1
  have HQ := hide h.range
  clear h
  go_enter Try.func90, Try.ntmps90

  go_wp2_with fail
  refine (text_rd g b n cap zs r _ E.rd).mono ?_
  intro e w1 H
  cases hp : pT r with
  | none =>
    obtain ⟨T, rfl⟩ := H.none hp
    have ET := E.tu.trans T
    have e0 := HE.out
    rw [hp] at e0
    have HN0 := hide (show pMod r = none from e0)
    clear e0
    unfold panicE
    go_wp2
    exact ⟨rfl, RP.ofNone HN0.out ET⟩
  | some xx =>
    obtain ⟨nm, r1⟩ := xx
    obtain ⟨T, v, rfl, hv, R⟩ := H.some hp
    have e0 := HE.out
    rw [hp] at e0
    simp only [Option.bind_some, Option.map_some] at e0
    obtain rfl : v = .string nm := hv
    have HE0 := hide e0
    clear e0 HE
    have HE := HE0
    clear HE0
    have E1 := E.call T R
    clear E T R H hp
    have E := E1
    clear E1
    have q := E.k2.cell 0
    have f := E.k2.frozen 0
    simp at q
    have E1 := E.set 0 (.string nm)
    clear E
    have E := E1
    clear E1
    go_wp2_with fail
    refine (words_rd g b n cap zs r1 _ E.rd).mono ?_
    intro e w2 H
    cases hp : pL r1 with
    | none =>
      obtain ⟨T, rfl⟩ := H.none hp
      have ET := E.tu.trans T
      have e0 := HE.out
      rw [hp] at e0
      have HN0 := hide (show pMod r = none from e0)
      clear e0
      unfold panicE
      go_wp2
      exact ⟨rfl, RP.ofNone HN0.out ET⟩
    | some xx =>
      obtain ⟨tz, r2⟩ := xx
      obtain ⟨T, v, rfl, hv, R⟩ := H.some hp
      have e0 := HE.out
      rw [hp] at e0
      simp only [Option.bind_some, Option.map_some] at e0
      obtain ⟨a1, c1, rfl, o1⟩ := hv
      have hb1 : w.heap.size + 2 ≤ _ := E.k2.lt
      have o1 := o1.mono hb1
      have HE0 := hide e0
      clear e0 HE
      have HE := HE0
      clear HE0
      have E1 := E.call T R
      clear E T R H hp
      have E := E1
      clear E1
      have o1s := hide (stay_og hg (Nat.le_refl _) : Stay w g (fun W => OG 3 1 clI W (w.heap.size + 2) (.slice a1 tz.length c1) tz))
      clear q f
      have q := E.k2.cell 1
      have f := E.k2.frozen 1
      simp at q
      have E1 := E.set 1 (.slice a1 tz.length c1)
      have o1 := o1s.out.set _ _ 1 (.slice a1 tz.length c1) (Nat.le_refl _) o1
      clear E
      have E := E1
      clear E1
      go_wp2_with fail
      refine (HN.out _ r2 E.rd).mono ?_
      intro e w3 H
      cases hp : pN 1 r2 with
      | none =>
        obtain ⟨T, rfl⟩ := H.none hp
        have ET := E.tu.trans T
        have e0 := HE.out
        rw [hp] at e0
        have HN0 := hide (show pMod r = none from e0)
        clear e0
        unfold panicE
        go_wp2
        exact ⟨rfl, RP.ofNone HN0.out ET⟩
      | some xx =>
        obtain ⟨xb, r3⟩ := xx
        obtain ⟨T, v, rfl, hv, R⟩ := H.some hp
        have e0 := HE.out
        rw [hp] at e0
        simp only [Option.bind_some, Option.map_some] at e0
        have hx := (gives_pN1 _ _ _ E.rd.range hp).1
        obtain ⟨mb, rfl⟩ : ∃ mb : Nat, xb = (mb : Int) := ⟨xb.toNat, by omega⟩
        have hmb : mb ≤ 255 := by omega
        clear hx
        obtain rfl : v = .int .i64 mb := hv
        simp only [Int.toNat_natCast] at e0
        have HE0 := hide e0
        clear e0 HE
        have HE := HE0
        clear HE0
        have E1 := E.call T R
        have o1 := o1s.out.turn _ _ o1 T
        clear E T R H hp
        have E := E1
        clear E1
        clear q f
        go_wp2_with fail
        refine (takenB_rd g b n cap zs mb r3 _ E.rd (by omega)).mono ?_
        intro e w4 H
        cases hp : pM pL mb r3 with
        | none =>
          obtain ⟨T, rfl⟩ := H.none hp
          have ET := E.tu.trans T
          have e0 := HE.out
          rw [hp] at e0
          have HN0 := hide (show pMod r = none from e0)
          clear e0
          unfold panicE
          go_wp2
          exact ⟨rfl, RP.ofNone HN0.out ET⟩
        | some xx =>
          obtain ⟨xs, r4⟩ := xx
          obtain ⟨T, v, rfl, hv, R⟩ := H.some hp
          have e0 := HE.out
          rw [hp] at e0
          simp only [Option.bind_some, Option.map_some] at e0
          obtain ⟨bl, rfl, a2, c2, rfl, o2⟩ := hv
          have hb1 : w.heap.size + 2 ≤ _ := E.k2.lt
          have HTB := hide (And.intro (fun k hk => (o1.lt k hk).2) (fun B (hB : B ∈ bl) k hk => ((o2.rows B hB).2.lt k hk).1))
          have o2 := o2.mono hb1
          have HE0 := hide e0
          clear e0 HE
          have HE := HE0
          clear HE0
          have E1 := E.call T R
          have o1 := o1s.out.turn _ _ o1 T
          clear E T R H hp
          have E := E1
          clear E1
          have o2s := hide (stay_obk hg (Nat.le_refl _) : Stay w g (fun W => OBk W (w.heap.size + 2) (.slice a2 bl.length c2) bl))
          have q := E.k2.cell 2
          have f := E.k2.frozen 2
          simp at q
          have E1 := E.set 2 (.slice a2 bl.length c2)
          have o1 := o1s.out.set _ _ 2 (.slice a2 bl.length c2) (Nat.le_refl _) o1
          have o2 := o2s.out.set _ _ 2 (.slice a2 bl.length c2) (Nat.le_refl _) o2
          clear E
          have E := E1
          clear E1
          go_wp2_with fail
          refine (count_rd g b n cap zs r4 _ E.rd).mono ?_
          intro e w5 H
          cases hp : pN 2 r4 with
          | none =>
            obtain ⟨T, rfl⟩ := H.none hp
            have ET := E.tu.trans T
            have e0 := HE.out
            rw [hp] at e0
            have HN0 := hide (show pMod r = none from e0)
            clear e0
            unfold panicE
            go_wp2
            exact ⟨rfl, RP.ofNone HN0.out ET⟩
          | some xx =>
            obtain ⟨xd, r5⟩ := xx
            obtain ⟨T, v, rfl, hv, R⟩ := H.some hp
            have e0 := HE.out
            rw [hp] at e0
            simp only [Option.bind_some, Option.map_some] at e0
            have hx := (gives_pN 2 (by omega) _ _ _ E.rd.range hp).1
            obtain ⟨md, rfl⟩ : ∃ md : Nat, xd = (md : Int) := ⟨xd.toNat, by omega⟩
            have hmd : md ≤ 65535 := by have := hx.2.2 (by omega); omega
            clear hx
            obtain rfl : v = .int .i64 md := hv
            simp only [Int.toNat_natCast] at e0
            have HE0 := hide e0
            clear e0 HE
            have HE := HE0
            clear HE0
            have E1 := E.call T R
            have o1 := o1s.out.turn _ _ o1 T
            have o2 := o2s.out.turn _ _ o2 T
            clear E T R H hp
            have E := E1
            clear E1
            clear q f
            go_wp2_with fail
            refine (take_any g b n cap zs r5 md _ E.rd (by omega)).mono ?_
            intro e w6 H
            cases hp : pB md r5 with
            | none =>
              obtain ⟨T, rfl⟩ := H.none hp
              have ET := E.tu.trans T
              have e0 := HE.out
              rw [hp] at e0
              have HN0 := hide (show pMod r = none from e0)
              clear e0
              unfold panicE
              go_wp2
              exact ⟨rfl, RP.ofNone HN0.out ET⟩
            | some xx =>
              obtain ⟨dz, r6⟩ := xx
              obtain ⟨T, v, rfl, hv, R⟩ := H.some hp
              have e0 := HE.out
              rw [hp] at e0
              simp only [Option.bind_some, Option.map_some] at e0
              obtain ⟨db, dk, dc, rfl, hB⟩ := hv
              have hdl : dz.length ≤ 1048576 := by have := (gives_pB md _ _ _ E.rd.range hp).1.1; omega
              have HE0 := hide e0
              clear e0 HE
              have HE := HE0
              clear HE0
              have E1 := E.call T R
              have o1 := o1s.out.turn _ _ o1 T
              have o2 := o2s.out.turn _ _ o2 T
              clear E T R H hp
              have E := E1
              clear E1
              go_wp2_with fail
              refine (clone_any db dk dz.length dc dz _ hB hdl).mono ?_
              rintro e w7 ⟨a3, c3, rfl, o3, hb⟩
              have hb1 : w.heap.size + 2 ≤ _ := E.k2.lt
              have o3 := o3.mono hb1
              have T : Turn (fun j => j = g) _ _ := turn_below hb
              have R := E.rd.below hb
              have E1 := E.call T R
              have o1 := o1s.out.turn _ _ o1 T
              have o2 := o2s.out.turn _ _ o2 T
              clear E T R hb hB
              have E := E1
              clear E1
              have o3s := hide (stay_ob hg (Nat.le_refl _) : Stay w g (fun W => OB W (w.heap.size + 2) (.slice a3 dz.length c3) dz))
              have q := E.k2.cell 3
              have f := E.k2.frozen 3
              simp at q
              have E1 := E.set 3 (.slice a3 dz.length c3)
              have o1 := o1s.out.set _ _ 3 (.slice a3 dz.length c3) (Nat.le_refl _) o1
              have o2 := o2s.out.set _ _ 3 (.slice a3 dz.length c3) (Nat.le_refl _) o2
              have o3 := o3s.out.set _ _ 3 (.slice a3 dz.length c3) (Nat.le_refl _) o3
              clear E
              have E := E1
              clear E1
              go_wp2_with fail
              refine (count_rd g b n cap zs r6 _ E.rd).mono ?_
              intro e w8 H
              cases hp : pN 2 r6 with
              | none =>
                obtain ⟨T, rfl⟩ := H.none hp
                have ET := E.tu.trans T
                have e0 := HE.out
                rw [hp] at e0
                have HN0 := hide (show pMod r = none from e0)
                clear e0
                unfold panicE
                go_wp2
                exact ⟨rfl, RP.ofNone HN0.out ET⟩
              | some xx =>
                obtain ⟨bss, r7⟩ := xx
                obtain ⟨T, v, rfl, hv, R⟩ := H.some hp
                have e0 := HE.out
                rw [hp] at e0
                simp only [Option.bind_some, Option.map_some] at e0
                obtain rfl : v = .int .i64 bss := hv
                have HE0 := hide e0
                clear e0 HE
                have HE := HE0
                clear HE0
                have E1 := E.call T R
                have o1 := o1s.out.turn _ _ o1 T
                have o2 := o2s.out.turn _ _ o2 T
                have o3 := o3s.out.turn _ _ o3 T
                clear E T R H hp
                have E := E1
                clear E1
                clear q f
                have q := E.k2.cell 4
                have f := E.k2.frozen 4
                simp at q
                have E1 := E.set 4 (.int .i64 bss)
                have o1 := o1s.out.set _ _ 4 (.int .i64 bss) (Nat.le_refl _) o1
                have o2 := o2s.out.set _ _ 4 (.int .i64 bss) (Nat.le_refl _) o2
                have o3 := o3s.out.set _ _ 4 (.int .i64 bss) (Nat.le_refl _) o3
                clear E
                have E := E1
                clear E1
                go_wp2_with fail
                refine (HN.out _ r7 E.rd).mono ?_
                intro e w9 H
                cases hp : pN 1 r7 with
                | none =>
                  obtain ⟨T, rfl⟩ := H.none hp
                  have ET := E.tu.trans T
                  have e0 := HE.out
                  rw [hp] at e0
                  have HN0 := hide (show pMod r = none from e0)
                  clear e0
                  unfold panicE
                  go_wp2
                  exact ⟨rfl, RP.ofNone HN0.out ET⟩
                | some xx =>
                  obtain ⟨xr, r8⟩ := xx
                  obtain ⟨T, v, rfl, hv, R⟩ := H.some hp
                  have e0 := HE.out
                  rw [hp] at e0
                  simp only [Option.bind_some, Option.map_some] at e0
                  have hx := (gives_pN1 _ _ _ E.rd.range hp).1
                  obtain ⟨mr, rfl⟩ : ∃ mr : Nat, xr = (mr : Int) := ⟨xr.toNat, by omega⟩
                  have hmr : mr ≤ 255 := by omega
                  clear hx
                  obtain rfl : v = .int .i64 mr := hv
                  simp only [Int.toNat_natCast] at e0
                  have HE0 := hide e0
                  clear e0 HE
                  have HE := HE0
                  clear HE0
                  have E1 := E.call T R
                  have o1 := o1s.out.turn _ _ o1 T
                  have o2 := o2s.out.turn _ _ o2 T
                  have o3 := o3s.out.turn _ _ o3 T
                  clear E T R H hp
                  have E := E1
                  clear E1
                  clear q f
                  go_wp2_with fail
                  refine (takenIcount_rd g b n cap zs mr r8 _ E.rd (by omega)).mono ?_
                  intro e w10 H
                  cases hp : pM (pN 2) mr r8 with
                  | none =>
                    obtain ⟨T, rfl⟩ := H.none hp
                    have ET := E.tu.trans T
                    have e0 := HE.out
                    rw [hp] at e0
                    have HN0 := hide (show pMod r = none from e0)
                    clear e0
                    unfold panicE
                    go_wp2
                    exact ⟨rfl, RP.ofNone HN0.out ET⟩
                  | some xx =>
                    obtain ⟨rz, r9⟩ := xx
                    obtain ⟨T, v, rfl, hv, R⟩ := H.some hp
                    have e0 := HE.out
                    rw [hp] at e0
                    simp only [Option.bind_some, Option.map_some] at e0
                    obtain ⟨a5, c5, rfl, o5⟩ := hv
                    have hb1 : w.heap.size + 2 ≤ _ := E.k2.lt
                    have HTR := hide (And.intro (fun k hk => (o1.lt k hk).2) (And.intro (fun B (hB : B ∈ bl) k hk => ((o2.rows B hB).2.lt k hk).2) (fun k hk => (o5.lt k hk).1)))
                    have o5 := o5.mono hb1
                    have HE0 := hide e0
                    clear e0 HE
                    have HE := HE0
                    clear HE0
                    have E1 := E.call T R
                    have o1 := o1s.out.turn _ _ o1 T
                    have o2 := o2s.out.turn _ _ o2 T
                    have o3 := o3s.out.turn _ _ o3 T
                    clear E T R H hp
                    have E := E1
                    clear E1
                    have o5s := hide (stay_og hg (Nat.le_refl _) : Stay w g (fun W => OG 3 1 clI W (w.heap.size + 2) (.slice a5 rz.length c5) rz))
                    have q := E.k2.cell 5
                    have f := E.k2.frozen 5
                    simp at q
                    have E1 := E.set 5 (.slice a5 rz.length c5)
                    have o1 := o1s.out.set _ _ 5 (.slice a5 rz.length c5) (Nat.le_refl _) o1
                    have o2 := o2s.out.set _ _ 5 (.slice a5 rz.length c5) (Nat.le_refl _) o2
                    have o3 := o3s.out.set _ _ 5 (.slice a5 rz.length c5) (Nat.le_refl _) o3
                    have o5 := o5s.out.set _ _ 5 (.slice a5 rz.length c5) (Nat.le_refl _) o5
                    clear E
                    have E := E1
                    clear E1
                    go_wp2_with fail
                    refine (HN.out _ r9 E.rd).mono ?_
                    intro e w11 H
                    cases hp : pN 1 r9 with
                    | none =>
                      obtain ⟨T, rfl⟩ := H.none hp
                      have ET := E.tu.trans T
                      have e0 := HE.out
                      rw [hp] at e0
                      have HN0 := hide (show pMod r = none from e0)
                      clear e0
                      unfold panicE
                      go_wp2
                      exact ⟨rfl, RP.ofNone HN0.out ET⟩
                    | some xx =>
                      obtain ⟨xi, r10⟩ := xx
                      obtain ⟨T, v, rfl, hv, R⟩ := H.some hp
                      have e0 := HE.out
                      rw [hp] at e0
                      simp only [Option.bind_some, Option.map_some] at e0
                      have hx := (gives_pN1 _ _ _ E.rd.range hp).1
                      obtain ⟨mi, rfl⟩ : ∃ mi : Nat, xi = (mi : Int) := ⟨xi.toNat, by omega⟩
                      have hmi : mi ≤ 255 := by omega
                      clear hx
                      obtain rfl : v = .int .i64 mi := hv
                      simp only [Int.toNat_natCast] at e0
                      have HE0 := hide e0
                      clear e0 HE
                      have HE := HE0
                      clear HE0
                      have E1 := E.call T R
                      have o1 := o1s.out.turn _ _ o1 T
                      have o2 := o2s.out.turn _ _ o2 T
                      have o3 := o3s.out.turn _ _ o3 T
                      have o5 := o5s.out.turn _ _ o5 T
                      clear E T R H hp
                      have E := E1
                      clear E1
                      clear q f
                      go_wp2_with fail
                      refine (takenTtext_rd g b n cap zs mi r10 _ E.rd (by omega)).mono ?_
                      intro e w12 H
                      cases hp : pM pT mi r10 with
                      | none =>
                        obtain ⟨T, rfl⟩ := H.none hp
                        have ET := E.tu.trans T
                        have e0 := HE.out
                        rw [hp] at e0
                        have HN0 := hide (show pMod r = none from e0)
                        clear e0
                        unfold panicE
                        go_wp2
                        exact ⟨rfl, RP.ofNone HN0.out ET⟩
                      | some xx =>
                        obtain ⟨ss, r11⟩ := xx
                        obtain ⟨T, v, rfl, hv, R⟩ := H.some hp
                        have e0 := HE.out
                        rw [hp] at e0
                        simp only [Option.bind_some, Option.map_some] at e0
                        obtain ⟨a6, c6, rfl, o6⟩ := hv
                        have hb1 : w.heap.size + 2 ≤ _ := E.k2.lt
                        have o6 := o6.mono hb1
                        have HE0 := hide e0
                        clear e0 HE
                        have HE := HE0
                        clear HE0
                        have E1 := E.call T R
                        have o1 := o1s.out.turn _ _ o1 T
                        have o2 := o2s.out.turn _ _ o2 T
                        have o3 := o3s.out.turn _ _ o3 T
                        have o5 := o5s.out.turn _ _ o5 T
                        clear E T R H hp
                        have E := E1
                        clear E1
                        have o6s := hide (stay_og hg (Nat.le_refl _) : Stay w g (fun W => OG 9 1 clT W (w.heap.size + 2) (.slice a6 ss.length c6) ss))
                        have q := E.k2.cell 6
                        have f := E.k2.frozen 6
                        simp at q
                        have E1 := E.set 6 (.slice a6 ss.length c6)
                        have o1 := o1s.out.set _ _ 6 (.slice a6 ss.length c6) (Nat.le_refl _) o1
                        have o2 := o2s.out.set _ _ 6 (.slice a6 ss.length c6) (Nat.le_refl _) o2
                        have o3 := o3s.out.set _ _ 6 (.slice a6 ss.length c6) (Nat.le_refl _) o3
                        have o5 := o5s.out.set _ _ 6 (.slice a6 ss.length c6) (Nat.le_refl _) o5
                        have o6 := o6s.out.set _ _ 6 (.slice a6 ss.length c6) (Nat.le_refl _) o6
                        clear E
                        have E := E1
                        clear E1
                        go_wp2_with fail
                        refine (HN.out _ r11 E.rd).mono ?_
                        intro e w13 H
                        cases hp : pN 1 r11 with
                        | none =>
                          obtain ⟨T, rfl⟩ := H.none hp
                          have ET := E.tu.trans T
                          have e0 := HE.out
                          rw [hp] at e0
                          have HN0 := hide (show pMod r = none from e0)
                          clear e0
                          unfold panicE
                          go_wp2
                          exact ⟨rfl, RP.ofNone HN0.out ET⟩
                        | some xx =>
                          obtain ⟨xe, r12⟩ := xx
                          obtain ⟨T, v, rfl, hv, R⟩ := H.some hp
                          have e0 := HE.out
                          rw [hp] at e0
                          simp only [Option.bind_some, Option.map_some] at e0
                          have hx := (gives_pN1 _ _ _ E.rd.range hp).1
                          obtain ⟨me, rfl⟩ : ∃ me : Nat, xe = (me : Int) := ⟨xe.toNat, by omega⟩
                          have hme : me ≤ 255 := by omega
                          clear hx
                          obtain rfl : v = .int .i64 me := hv
                          simp only [Int.toNat_natCast] at e0
                          have HE0 := hide e0
                          clear e0 HE
                          have HE := HE0
                          clear HE0
                          have E1 := E.call T R
                          have o1 := o1s.out.turn _ _ o1 T
                          have o2 := o2s.out.turn _ _ o2 T
                          have o3 := o3s.out.turn _ _ o3 T
                          have o5 := o5s.out.turn _ _ o5 T
                          have o6 := o6s.out.turn _ _ o6 T
                          clear E T R H hp
                          have E := E1
                          clear E1
                          clear q f
                          go_wp2_with fail
                          refine (takenXexport_rd g b n cap zs me r12 _ E.rd (by omega)).mono ?_
                          intro e w14 H
                          cases hp : pM pX me r12 with
                          | none =>
                            obtain ⟨T, rfl⟩ := H.none hp
                            have ET := E.tu.trans T
                            have e0 := HE.out
                            rw [hp] at e0
                            have HN0 := hide (show pMod r = none from e0)
                            clear e0
                            unfold panicE
                            go_wp2
                            exact ⟨rfl, RP.ofNone HN0.out ET⟩
                          | some xx =>
                            obtain ⟨es, r13⟩ := xx
                            obtain ⟨T, v, rfl, hv, R⟩ := H.some hp
                            have e0 := HE.out
                            rw [hp] at e0
                            simp only [Option.bind_some, Option.map_some] at e0
                            obtain ⟨a7, c7, rfl, o7⟩ := hv
                            have hb1 : w.heap.size + 2 ≤ _ := E.k2.lt
                            have o7 := o7.mono hb1
                            have HE0 := hide e0
                            clear e0 HE
                            have HE := HE0
                            clear HE0
                            have E1 := E.call T R
                            have o1 := o1s.out.turn _ _ o1 T
                            have o2 := o2s.out.turn _ _ o2 T
                            have o3 := o3s.out.turn _ _ o3 T
                            have o5 := o5s.out.turn _ _ o5 T
                            have o6 := o6s.out.turn _ _ o6 T
                            clear E T R H hp
                            have E := E1
                            clear E1
                            have o7s := hide (stay_og hg (Nat.le_refl _) : Stay w g (fun W => OG 86 3 clX W (w.heap.size + 2) (.slice a7 es.length c7) es))
                            have q := E.k2.cell 7
                            have f := E.k2.frozen 7
                            simp at q
                            have E1 := E.set 7 (.slice a7 es.length c7)
                            have o1 := o1s.out.set _ _ 7 (.slice a7 es.length c7) (Nat.le_refl _) o1
                            have o2 := o2s.out.set _ _ 7 (.slice a7 es.length c7) (Nat.le_refl _) o2
                            have o3 := o3s.out.set _ _ 7 (.slice a7 es.length c7) (Nat.le_refl _) o3
                            have o5 := o5s.out.set _ _ 7 (.slice a7 es.length c7) (Nat.le_refl _) o5
                            have o6 := o6s.out.set _ _ 7 (.slice a7 es.length c7) (Nat.le_refl _) o6
                            have o7 := o7s.out.set _ _ 7 (.slice a7 es.length c7) (Nat.le_refl _) o7
                            clear E
                            have E := E1
                            clear E1
                            have kk := E.k2
                            simp at kk
                            obtain ⟨u0, u1, u2, u3, u4, u5, u6, u7⟩ := kk.eight'
                            obtain ⟨p0, p1, p2, p3, p4, p5, p6, p7⟩ := E.k1.eight'
                            obtain ⟨g0, g1, g2, g3, g4, g5, g6, g7⟩ := E.k1.froz
                            have HF := hide (E.st8 (.string nm) (.slice a1 tz.length c1) (.slice a2 bl.length c2) (.slice a3 dz.length c3) (.int .i64 bss) (.slice a5 rz.length c5) (.slice a6 ss.length c6) (.slice a7 es.length c7))
                            have o1 := o1s.out.st8 o1 (.string nm) (.slice a1 tz.length c1) (.slice a2 bl.length c2) (.slice a3 dz.length c3) (.int .i64 bss) (.slice a5 rz.length c5) (.slice a6 ss.length c6) (.slice a7 es.length c7)
                            have o2 := o2s.out.st8 o2 (.string nm) (.slice a1 tz.length c1) (.slice a2 bl.length c2) (.slice a3 dz.length c3) (.int .i64 bss) (.slice a5 rz.length c5) (.slice a6 ss.length c6) (.slice a7 es.length c7)
                            have o3 := o3s.out.st8 o3 (.string nm) (.slice a1 tz.length c1) (.slice a2 bl.length c2) (.slice a3 dz.length c3) (.int .i64 bss) (.slice a5 rz.length c5) (.slice a6 ss.length c6) (.slice a7 es.length c7)
                            have o5 := o5s.out.st8 o5 (.string nm) (.slice a1 tz.length c1) (.slice a2 bl.length c2) (.slice a3 dz.length c3) (.int .i64 bss) (.slice a5 rz.length c5) (.slice a6 ss.length c6) (.slice a7 es.length c7)
                            have o6 := o6s.out.st8 o6 (.string nm) (.slice a1 tz.length c1) (.slice a2 bl.length c2) (.slice a3 dz.length c3) (.int .i64 bss) (.slice a5 rz.length c5) (.slice a6 ss.length c6) (.slice a7 es.length c7)
                            have o7 := o7s.out.st8 o7 (.string nm) (.slice a1 tz.length c1) (.slice a2 bl.length c2) (.slice a3 dz.length c3) (.int .i64 bss) (.slice a5 rz.length c5) (.slice a6 ss.length c6) (.slice a7 es.length c7)
                            have HO := hide (And.intro o1 (And.intro o2 (And.intro o3 (And.intro o5 (And.intro o6 o7)))))
                            clear E kk o1 o2 o3 o5 o6 o7
                            go_wp2
                            obtain ⟨FR, FT, FK⟩ := HF.out
                            obtain ⟨o1, o2, o3, o5, o6, o7⟩ := HO.out
                            obtain ⟨t0, t1, t2, t3, t4, t5, t6, t7⟩ := FK.eight'
                            refine bodyPost_ret_by (v := .agg (modV ⟨nm, tz, bl.map (fun B => B.2.2.2), dz, bss, rz, ss, es⟩ a1 c1 a2 c2 bl a3 c3 a5 c5 a6 c6 a7 c7)) ?_ rfl (RP.ofSome (x := ⟨nm, tz, bl.map (fun B => B.2.2.2), dz, bss, rz, ss, es⟩) (r := r13) HE.out FT ⟨a1, c1, a2, c2, bl, a3, c3, a5, c5, a6, c6, a7, c7, rfl, ⟨o1.mono (by omega), o2.mono (by omega), rfl, o3.mono (by omega), o5.mono (by omega), o6.mono (by omega), o7.mono (by omega), ?_, ?_, ?_⟩⟩ FR)
                            · unfold st8 at t0 t1 t2 t3 t4 t5 t6 t7
                              simp only [results, Try.results90]
                              simp [go_sem, t0, t1, t2, t3, t4, t5, t6, t7, modV]
                            · exact fun k hk B hB e => by have h1 := HTB.out.1 k hk; have h2 := HTB.out.2 B hB k e; omega
                            · exact fun k hk e => by have h1 := HTR.out.1 k hk; have h2 := HTR.out.2.2 k e; omega
                            · exact fun k hk B hB e => by have h1 := HTR.out.2.1 B hB k e; have h2 := HTR.out.2.2 k hk; omega
end Go.Proofs.Ytngdgogjlpjjpac

namespace Go.Proofs.Ytngdgogjlpjjpac
open Go.RowKit
set_option linter.unusedVariables false
set_option linter.unusedSimpArgs false
set_option maxRecDepth 100000

/-- an empty module's cells -/
def z8 : Array Value := #[.string ⟨#[]⟩, .slice none 0 0, .slice none 0 0, .slice none 0 0, .int .i64 0, .slice none 0 0, .slice none 0 0, .slice none 0 0]
theorem array8' {cs : Array Value} (h : cs.size = 8) : ∃ c0 c1 c2 c3 c4 c5 c6 c7, cs = #[c0, c1, c2, c3, c4, c5, c6, c7] := by
  obtain ⟨l⟩ := cs
  match l, h with
  | [a, b, c, d, e, f, g, i], _ => exact ⟨a, b, c, d, e, f, g, i, rfl⟩
/-- what the deferred function lays -/
def caught (W : World) (m k : Nat) (c : Int) : World := (st8 W m (.string ⟨#[]⟩) (.slice none 0 0) (.slice none 0 0) (.slice none 0 0) (.int .i64 0) (.slice none 0 0) (.slice none 0 0) (.slice none 0 0)).setCell ⟨k, 0, none⟩ (.int .i64 c)

theorem run_assert (c : Int) (t : TypeId) (W : World) : (Instr.typeAssert (.iface 114 (.int .i64 c)) t 114 false).run Try.prog W = .ok (.int .i64 c) W := by
  simp [Instr.typeAssert, run_underlying Try.underlying114]

set_option maxHeartbeats 1000000 in
theorem catch_idle (m k : Nat) (w : World) :
    CallsD Try.prog 88 #[.pointer (some ⟨m, 0, none⟩), .pointer (some ⟨k, 0, none⟩)] .returning w fun e u' w' => e = .returned (.tuple #[]) ∧ u' = .returning ∧ w' = w := by
  refine callsD_of_wpS Try.func88 rfl fun c₀ cs hu => ?_
  apply wpS_seq
  apply wpS_region
  simp [wpOpsS, go_sem, recoverD, hu, Try.ntmps88, Exit.thenS]
  apply wpS_seq
  apply wpS_region
  simp [wpOpsS, go_sem, recoverD, hu, Try.ntmps88, Exit.thenS]
  refine wpS_cond (t := false) (by simp [Act.eval, Array.replicate]) ?_
  simp only [Bool.false_eq_true, if_false]
  refine wpS_of_wp (wp_skip ?_)
  cases c₀
  simp_all [bodyPostS, results, Try.results88]

set_option maxHeartbeats 1000000 in
theorem catch_panic (m k : Nat) (c : Int) (older : List PanicEntry) (ms : Array Value) (x : Value) (w : World) (hm : Blk w m ms 56) (hs : ms.size = 8) (hk : Blk w k #[x] 3) :
    CallsD Try.prog 88 #[.pointer (some ⟨m, 0, none⟩), .pointer (some ⟨k, 0, none⟩)] (.panicking ({ v := .iface 114 (.int .i64 c), recovered := false } :: older)) w fun e u' w' =>
      e = .returned (.tuple #[]) ∧ u' = .panicking ({ v := .iface 114 (.int .i64 c), recovered := true } :: older) ∧ w' = (caught w m k c).drew := by
  refine callsD_of_wpS Try.func88 rfl fun c₀ cs hu => ?_
  apply wpS_seq
  apply wpS_region
  simp [wpOpsS, go_sem, recoverD, hu, Try.ntmps88, Exit.thenS]
  apply wpS_seq
  apply wpS_region
  simp [wpOpsS, go_sem, recoverD, hu, Try.ntmps88, Exit.thenS]
  refine wpS_cond (t := true) (by simp [Act.eval, Array.replicate]) ?_
  simp only [if_true]
  refine wpS_of_wp ?_
  have hmk : m ≠ k := fun e => by rw [e] at hm; exact absurd (blk_kind hm hk) (by decide)
  have hkm : k ≠ m := fun e => hmk e.symm
  obtain ⟨y0, y1, y2, y3, y4, y5, y6, y7, rfl⟩ := array8' hs
  obtain ⟨p0, p1, p2, p3, p4, p5, p6, p7⟩ := hm.eight'
  obtain ⟨f0, f1, f2, f3, f4, f5, f6, f7⟩ := hm.froz
  have r0 := hk.cell 0
  have r1 := hk.frozen 0
  simp at r0
  clear hm hk hs
  change Code.wp _ _ _ ⟨#[.pointer (some ⟨m, 0, none⟩), .pointer (some ⟨k, 0, none⟩), .iface 114 (.int .i64 c), .iface 114 (.int .i64 c), .iface 114 (.int .i64 c), .bool true, undef, undef, undef], []⟩ _
  have hta := fun (t : TypeId) (W : World) => run_assert c t W
  go_region
  cases c₀
  simp_all [bodyPostS, results, Try.results88, caught, st8]
end Go.Proofs.Ytngdgogjlpjjpac
