import Derived.Test.YtngdgogjlpjjpadP06
import Derived.Test.YtngdgogjlpjjpadP18
import Derived.Test.YtngdgogjlpjjpadP21
namespace Go.Proofs.Ytngdgogjlpjjpad
open Go.RowKit
set_option linter.unusedVariables false
set_option linter.unusedSimpArgs false
set_option maxRecDepth 100000
theorem pMod_eq (zs : List Int) : pMod zs = (pT zs).bind fun a => (pL a.2).bind fun b => (pN 1 b.2).bind fun nb => (pM pL nb.1.toNat nb.2).bind fun c => (pN 2 c.2).bind fun nd => (pB nd.1.toNat nd.2).bind fun d => (pN 2 d.2).bind fun e => (pN 1 e.2).bind fun nr => (pM (pN 2) nr.1.toNat nr.2).bind fun f => (pN 1 f.2).bind fun ni => (pM pT ni.1.toNat ni.2).bind fun g => (pN 1 g.2).bind fun ne => (pM pX ne.1.toNat ne.2).map fun h => (⟨a.1, b.1, c.1, d.1, e.1, f.1, g.1, h.1⟩, h.2) := rfl
structure Stay (w : World) (g : Nat) (A : World → Prop) : Prop where
  turn : ∀ W W', A W → Turn (fun j => j = g) W W' → A W'
  set : ∀ W k i v, k ≤ w.heap.size + 1 → A W → A (W.setCell ⟨k, i, none⟩ v)
theorem Stay.and {w : World} {g : Nat} {A B : World → Prop} (a : Stay w g A) (b : Stay w g B) : Stay w g (fun W => A W ∧ B W) :=
  ⟨fun W W' h t => ⟨a.turn W W' h.1 t, b.turn W W' h.2 t⟩, fun W k i v hk h => ⟨a.set W k i v hk h.1, b.set W k i v hk h.2⟩⟩
theorem stay_og {α : Type} {t : TypeId} {sz : Nat} {f : α → List Value} {w : World} {g base : Nat} {v : Value} {xs : List α} (hg : g < w.heap.size) (hb : w.heap.size + 2 ≤ base) : Stay w g (fun W => OG t sz f W base v xs) :=
  ⟨fun W W' h t => h.turn t (fun k hk => by omega), fun W k i u hk h => h.turn (turn_set W k i u) (fun j hj => by omega)⟩
theorem stay_obk {w : World} {g base : Nat} {v : Value} {bl : List Bk} (hg : g < w.heap.size) (hb : w.heap.size + 2 ≤ base) : Stay w g (fun W => OBk W base v bl) :=
  ⟨fun W W' h t => h.turn t (fun k hk => by omega), fun W k i u hk h => h.turn (turn_set W k i u) (fun j hj => by omega)⟩
theorem stay_ob {w : World} {g base : Nat} {v : Value} {zs : List Int} (hg : g < w.heap.size) (hb : w.heap.size + 2 ≤ base) : Stay w g (fun W => OB W base v zs) :=
  ⟨fun W W' h t => turn_ob t h (fun k hk e => by have := (h.lt k hk).1; omega), fun W k i u hk h => turn_ob (turn_set W k i u) h (fun j hj e => by have := (h.lt j hj).1; omega)⟩
theorem stay_p {w : World} {g : Nat} {P : Prop} : Stay w g (fun _ => P) := ⟨fun _ _ h _ => h, fun _ _ _ _ _ h => h⟩
def st8 (W : World) (k : Nat) (v0 v1 v2 v3 v4 v5 v6 v7 : Value) : World := (((((((W.setCell ⟨k, 0, none⟩ v0).setCell ⟨k, 1, none⟩ v1).setCell ⟨k, 2, none⟩ v2).setCell ⟨k, 3, none⟩ v3).setCell ⟨k, 4, none⟩ v4).setCell ⟨k, 5, none⟩ v5).setCell ⟨k, 6, none⟩ v6).setCell ⟨k, 7, none⟩ v7
theorem Stay.st8 {w W : World} {g : Nat} {A : World → Prop} (a : Stay w g A) (h : A W) (v0 v1 v2 v3 v4 v5 v6 v7 : Value) : A (st8 W w.heap.size v0 v1 v2 v3 v4 v5 v6 v7) :=
  a.set _ _ _ _ (by omega) (a.set _ _ _ _ (by omega) (a.set _ _ _ _ (by omega) (a.set _ _ _ _ (by omega) (a.set _ _ _ _ (by omega) (a.set _ _ _ _ (by omega) (a.set _ _ _ _ (by omega) (a.set _ _ _ _ (by omega) h)))))))
theorem Es.st8 {w W : World} {g b n cap : Nat} {zs r : List Int} {t : TypeId} {z0 z1 z2 z3 z4 z5 z6 z7 : Value} {cs : Array Value} (h : Es w W g b n cap zs r t #[z0, z1, z2, z3, z4, z5, z6, z7] cs) (v0 v1 v2 v3 v4 v5 v6 v7 : Value) :
    RdI (st8 W w.heap.size v0 v1 v2 v3 v4 v5 v6 v7) g b n cap zs r ∧ Turn (fun j => j = g) w (st8 W w.heap.size v0 v1 v2 v3 v4 v5 v6 v7) ∧ Blk (st8 W w.heap.size v0 v1 v2 v3 v4 v5 v6 v7) w.heap.size #[v0, v1, v2, v3, v4, v5, v6, v7] t := by
  have l1 : w.heap.size ≠ g := by have := h.lo.1; omega
  have l2 : n ≠ 0 → b ≠ w.heap.size := fun hn => by have := h.lo.2 hn; omega
  refine ⟨(((((((h.rd.other l1 l2).other l1 l2).other l1 l2).other l1 l2).other l1 l2).other l1 l2).other l1 l2).other l1 l2, ?_, ?_⟩
  · exact turn_new' (turn_new' (turn_new' (turn_new' (turn_new' (turn_new' (turn_new' (turn_new' h.tu (Nat.le_refl _) _ _) (Nat.le_refl _) _ _) (Nat.le_refl _) _ _) (Nat.le_refl _) _ _) (Nat.le_refl _) _ _) (Nat.le_refl _) _ _) (Nat.le_refl _) _ _) (Nat.le_refl _) _ _
  · have k := (((((((h.k1.set 0 v0).set 1 v1).set 2 v2).set 3 v3).set 4 v4).set 5 v5).set 6 v6).set 7 v7
    have e : (((((((#[z0, z1, z2, z3, z4, z5, z6, z7].setIfInBounds 0 v0).setIfInBounds 1 v1).setIfInBounds 2 v2).setIfInBounds 3 v3).setIfInBounds 4 v4).setIfInBounds 5 v5).setIfInBounds 6 v6).setIfInBounds 7 v7 = #[v0, v1, v2, v3, v4, v5, v6, v7] := by simp
    rw [e] at k
    exact k
theorem Blk.eight' {w : World} {g : Nat} {v0 v1 v2 v3 v4 v5 v6 v7 : Value} {t : TypeId} (h : Blk w g #[v0, v1, v2, v3, v4, v5, v6, v7] t) : w.cell? ⟨g, 0, none⟩ = some v0 ∧ w.cell? ⟨g, 1, none⟩ = some v1 ∧ w.cell? ⟨g, 2, none⟩ = some v2 ∧ w.cell? ⟨g, 3, none⟩ = some v3 ∧ w.cell? ⟨g, 4, none⟩ = some v4 ∧ w.cell? ⟨g, 5, none⟩ = some v5 ∧ w.cell? ⟨g, 6, none⟩ = some v6 ∧ w.cell? ⟨g, 7, none⟩ = some v7 :=
  ⟨h.cell 0, h.cell 1, h.cell 2, h.cell 3, h.cell 4, h.cell 5, h.cell 6, h.cell 7⟩
theorem Blk.froz {w : World} {g : Nat} {cs : Array Value} {t : TypeId} (h : Blk w g cs t) : w.frozen? ⟨g, 0, none⟩ = false ∧ w.frozen? ⟨g, 1, none⟩ = false ∧ w.frozen? ⟨g, 2, none⟩ = false ∧ w.frozen? ⟨g, 3, none⟩ = false ∧ w.frozen? ⟨g, 4, none⟩ = false ∧ w.frozen? ⟨g, 5, none⟩ = false ∧ w.frozen? ⟨g, 6, none⟩ = false ∧ w.frozen? ⟨g, 7, none⟩ = false :=
  ⟨h.frozen 0, h.frozen 1, h.frozen 2, h.frozen 3, h.frozen 4, h.frozen 5, h.frozen 6, h.frozen 7⟩
structure ModO (W : World) (base : Nat) (P : PMod) (a1 : Option Addr) (c1 : Nat) (a2 : Option Addr) (c2 : Nat) (bl : List Bk) (a3 : Option Addr) (c3 : Nat) (a5 : Option Addr) (c5 : Nat) (a6 : Option Addr) (c6 : Nat) (a7 : Option Addr) (c7 : Nat) : Prop where
  t : OG 3 1 clI W base (.slice a1 P.tz.length c1) P.tz
  b : OBk W base (.slice a2 bl.length c2) bl
  bls : bl.map (fun B => B.2.2.2) = P.bl
  d : OB W base (.slice a3 P.dz.length c3) P.dz
  r : OG 3 1 clI W base (.slice a5 P.rz.length c5) P.rz
  i : OG 9 1 clT W base (.slice a6 P.ss.length c6) P.ss
  e : OG 58 3 clX W base (.slice a7 P.es.length c7) P.es
  tb : ∀ k, (Value.slice a1 P.tz.length c1).ownBlock = some k → ∀ B ∈ bl, (Value.slice B.1 B.2.1 B.2.2.1).ownBlock ≠ some k
  tr : ∀ k, (Value.slice a1 P.tz.length c1).ownBlock = some k → (Value.slice a5 P.rz.length c5).ownBlock ≠ some k
  br : ∀ k, (Value.slice a5 P.rz.length c5).ownBlock = some k → ∀ B ∈ bl, (Value.slice B.1 B.2.1 B.2.2.1).ownBlock ≠ some k
def modV (P : PMod) (a1 : Option Addr) (c1 : Nat) (a2 : Option Addr) (c2 : Nat) (bl : List Bk) (a3 : Option Addr) (c3 : Nat) (a5 : Option Addr) (c5 : Nat) (a6 : Option Addr) (c6 : Nat) (a7 : Option Addr) (c7 : Nat) : Array Value := #[.string P.nm, .slice a1 P.tz.length c1, .slice a2 bl.length c2, .slice a3 P.dz.length c3, .int .i64 P.bss, .slice a5 P.rz.length c5, .slice a6 P.ss.length c6, .slice a7 P.es.length c7]
def isMod (base : Nat) (P : PMod) (v : Value) (w : World) : Prop := ∃ a1 c1 a2 c2 bl a3 c3 a5 c5 a6 c6 a7 c7, v = .agg (modV P a1 c1 a2 c2 bl a3 c3 a5 c5 a6 c6 a7 c7) ∧ ModO w base P a1 c1 a2 c2 bl a3 c3 a5 c5 a6 c6 a7 c7
set_option maxHeartbeats 8000000 in
theorem module_rd (g b n cap : Nat) (zs r : List Int) (w : World) (h : RdI w g b n cap zs r) :
    Calls Try.prog 29 #[.pointer (some ⟨g, 0, none⟩)] w (RP w g b n cap zs (isMod w.heap.size) (pMod r)) := by
  have E := Es.new (t := 29) (z := #[.string ⟨#[]⟩, .slice none 0 0, .slice none 0 0, .slice none 0 0, .int .i64 0, .slice none 0 0, .slice none 0 0, .slice none 0 0]) h
  have hmf : ∀ (fn : Fn) (first cap : Array Value) (w : World), (Instr.makeFunc fn first cap).run Try.prog w = .ok (.func fn first cap) w := fun _ _ _ _ => rfl
  have HN := hide (fun w r h => number_rd g b n cap zs r 1 w h (Or.inl rfl))
  have HE := hide (pMod_eq r)
  have hA : (fun _ : World => True) w := trivial
  have st : Stay w g (fun _ => True) := stay_p
  have hg := h.lts.1
  have HQ := hide h.range
  clear h
  go_enter Try.func29, Try.ntmps29
  go_wp2_with fail
  refine (text_rd g b n cap zs r _ E.rd).mono ?_
  intro e w1 H
  cases hp : pT r with
  | none =>
    obtain ⟨T, rfl⟩ := H.none hp
    have ET := E.tu.trans T
    have e0 := HE.out
    rw [hp] at e0
    have HN0 := hide (show pMod r = none from e0)
    clear e0
    unfold panicE
    go_wp2
    exact ⟨rfl, RP.ofNone HN0.out ET⟩
  | some xx =>
    obtain ⟨nm, r1⟩ := xx
    obtain ⟨T, v, rfl, hv, R⟩ := H.some hp
    have e0 := HE.out
    rw [hp] at e0
    simp only [Option.bind_some, Option.map_some] at e0
    obtain rfl : v = .string nm := hv
    have HE0 := hide e0
    clear e0 HE
    have HE := HE0
    clear HE0
    have E1 := E.call T R
    clear E T R H hp
    have E := E1
    clear E1
    have q := E.k2.cell 0
    have f := E.k2.frozen 0
    simp at q
    have E1 := E.set 0 (.string nm)
    clear E
    have E := E1
    clear E1
    go_wp2_with fail
    refine (words_rd g b n cap zs r1 _ E.rd).mono ?_
    intro e w2 H
    cases hp : pL r1 with
    | none =>
      obtain ⟨T, rfl⟩ := H.none hp
      have ET := E.tu.trans T
      have e0 := HE.out
      rw [hp] at e0
      have HN0 := hide (show pMod r = none from e0)
      clear e0
      unfold panicE
      go_wp2
      exact ⟨rfl, RP.ofNone HN0.out ET⟩
    | some xx =>
      obtain ⟨tz, r2⟩ := xx
      obtain ⟨T, v, rfl, hv, R⟩ := H.some hp
      have e0 := HE.out
      rw [hp] at e0
      simp only [Option.bind_some, Option.map_some] at e0
      obtain ⟨a1, c1, rfl, o1⟩ := hv
      have hb1 : w.heap.size + 2 ≤ _ := E.k2.lt
      have o1 := o1.mono hb1
      have HE0 := hide e0
      clear e0 HE
      have HE := HE0
      clear HE0
      have E1 := E.call T R
      clear E T R H hp
      have E := E1
      clear E1
      have o1s := hide (stay_og hg (Nat.le_refl _) : Stay w g (fun W => OG 3 1 clI W (w.heap.size + 2) (.slice a1 tz.length c1) tz))
      clear q f
      have q := E.k2.cell 1
      have f := E.k2.frozen 1
      simp at q
      have E1 := E.set 1 (.slice a1 tz.length c1)
      have o1 := o1s.out.set _ _ 1 (.slice a1 tz.length c1) (Nat.le_refl _) o1
      clear E
      have E := E1
      clear E1
      go_wp2_with fail
      refine (HN.out _ r2 E.rd).mono ?_
      intro e w3 H
      cases hp : pN 1 r2 with
      | none =>
        obtain ⟨T, rfl⟩ := H.none hp
        have ET := E.tu.trans T
        have e0 := HE.out
        rw [hp] at e0
        have HN0 := hide (show pMod r = none from e0)
        clear e0
        unfold panicE
        go_wp2
        exact ⟨rfl, RP.ofNone HN0.out ET⟩
      | some xx =>
        obtain ⟨xb, r3⟩ := xx
        obtain ⟨T, v, rfl, hv, R⟩ := H.some hp
        have e0 := HE.out
        rw [hp] at e0
        simp only [Option.bind_some, Option.map_some] at e0
        have hx := (gives_pN1 _ _ _ E.rd.range hp).1
        obtain ⟨mb, rfl⟩ : ∃ mb : Nat, xb = (mb : Int) := ⟨xb.toNat, by omega⟩
        have hmb : mb ≤ 255 := by omega
        clear hx
        obtain rfl : v = .int .i64 mb := hv
        simp only [Int.toNat_natCast] at e0
        have HE0 := hide e0
        clear e0 HE
        have HE := HE0
        clear HE0
        have E1 := E.call T R
        have o1 := o1s.out.turn _ _ o1 T
        clear E T R H hp
        have E := E1
        clear E1
        clear q f
        go_wp2_with fail
        refine (takenB_rd g b n cap zs mb r3 _ E.rd (by omega)).mono ?_
        intro e w4 H
        cases hp : pM pL mb r3 with
        | none =>
          obtain ⟨T, rfl⟩ := H.none hp
          have ET := E.tu.trans T
          have e0 := HE.out
          rw [hp] at e0
          have HN0 := hide (show pMod r = none from e0)
          clear e0
          unfold panicE
          go_wp2
          exact ⟨rfl, RP.ofNone HN0.out ET⟩
        | some xx =>
          obtain ⟨xs, r4⟩ := xx
          obtain ⟨T, v, rfl, hv, R⟩ := H.some hp
          have e0 := HE.out
          rw [hp] at e0
          simp only [Option.bind_some, Option.map_some] at e0
          obtain ⟨bl, rfl, a2, c2, rfl, o2⟩ := hv
          have hb1 : w.heap.size + 2 ≤ _ := E.k2.lt
          have HTB := hide (And.intro (fun k hk => (o1.lt k hk).2) (fun B (hB : B ∈ bl) k hk => ((o2.rows B hB).2.lt k hk).1))
          have o2 := o2.mono hb1
          have HE0 := hide e0
          clear e0 HE
          have HE := HE0
          clear HE0
          have E1 := E.call T R
          have o1 := o1s.out.turn _ _ o1 T
          clear E T R H hp
          have E := E1
          clear E1
          have o2s := hide (stay_obk hg (Nat.le_refl _) : Stay w g (fun W => OBk W (w.heap.size + 2) (.slice a2 bl.length c2) bl))
          have q := E.k2.cell 2
          have f := E.k2.frozen 2
          simp at q
          have E1 := E.set 2 (.slice a2 bl.length c2)
          have o1 := o1s.out.set _ _ 2 (.slice a2 bl.length c2) (Nat.le_refl _) o1
          have o2 := o2s.out.set _ _ 2 (.slice a2 bl.length c2) (Nat.le_refl _) o2
          clear E
          have E := E1
          clear E1
          go_wp2_with fail
          refine (count_rd g b n cap zs r4 _ E.rd).mono ?_
          intro e w5 H
          cases hp : pN 2 r4 with
          | none =>
            obtain ⟨T, rfl⟩ := H.none hp
            have ET := E.tu.trans T
            have e0 := HE.out
            rw [hp] at e0
            have HN0 := hide (show pMod r = none from e0)
            clear e0
            unfold panicE
            go_wp2
            exact ⟨rfl, RP.ofNone HN0.out ET⟩
          | some xx =>
            obtain ⟨xd, r5⟩ := xx
            obtain ⟨T, v, rfl, hv, R⟩ := H.some hp
            have e0 := HE.out
            rw [hp] at e0
            simp only [Option.bind_some, Option.map_some] at e0
            have hx := (gives_pN 2 (by omega) _ _ _ E.rd.range hp).1
            obtain ⟨md, rfl⟩ : ∃ md : Nat, xd = (md : Int) := ⟨xd.toNat, by omega⟩
            have hmd : md ≤ 65535 := by have := hx.2.2 (by omega); omega
            clear hx
            obtain rfl : v = .int .i64 md := hv
            simp only [Int.toNat_natCast] at e0
            have HE0 := hide e0
            clear e0 HE
            have HE := HE0
            clear HE0
            have E1 := E.call T R
            have o1 := o1s.out.turn _ _ o1 T
            have o2 := o2s.out.turn _ _ o2 T
            clear E T R H hp
            have E := E1
            clear E1
            clear q f
            go_wp2_with fail
            refine (take_any g b n cap zs r5 md _ E.rd (by omega)).mono ?_
            intro e w6 H
            cases hp : pB md r5 with
            | none =>
              obtain ⟨T, rfl⟩ := H.none hp
              have ET := E.tu.trans T
              have e0 := HE.out
              rw [hp] at e0
              have HN0 := hide (show pMod r = none from e0)
              clear e0
              unfold panicE
              go_wp2
              exact ⟨rfl, RP.ofNone HN0.out ET⟩
            | some xx =>
              obtain ⟨dz, r6⟩ := xx
              obtain ⟨T, v, rfl, hv, R⟩ := H.some hp
              have e0 := HE.out
              rw [hp] at e0
              simp only [Option.bind_some, Option.map_some] at e0
              obtain ⟨db, dk, dc, rfl, hB⟩ := hv
              have hdl : dz.length ≤ 1048576 := by have := (gives_pB md _ _ _ E.rd.range hp).1.1; omega
              have HE0 := hide e0
              clear e0 HE
              have HE := HE0
              clear HE0
              have E1 := E.call T R
              have o1 := o1s.out.turn _ _ o1 T
              have o2 := o2s.out.turn _ _ o2 T
              clear E T R H hp
              have E := E1
              clear E1
              go_wp2_with fail
              refine (clone_any db dk dz.length dc dz _ hB hdl).mono ?_
              rintro e w7 ⟨a3, c3, rfl, o3, hb⟩
              have hb1 : w.heap.size + 2 ≤ _ := E.k2.lt
              have o3 := o3.mono hb1
              have T : Turn (fun j => j = g) _ _ := turn_below hb
              have R := E.rd.below hb
              have E1 := E.call T R
              have o1 := o1s.out.turn _ _ o1 T
              have o2 := o2s.out.turn _ _ o2 T
              clear E T R hb hB
              have E := E1
              clear E1
              have o3s := hide (stay_ob hg (Nat.le_refl _) : Stay w g (fun W => OB W (w.heap.size + 2) (.slice a3 dz.length c3) dz))
              have q := E.k2.cell 3
              have f := E.k2.frozen 3
              simp at q
              have E1 := E.set 3 (.slice a3 dz.length c3)
              have o1 := o1s.out.set _ _ 3 (.slice a3 dz.length c3) (Nat.le_refl _) o1
              have o2 := o2s.out.set _ _ 3 (.slice a3 dz.length c3) (Nat.le_refl _) o2
              have o3 := o3s.out.set _ _ 3 (.slice a3 dz.length c3) (Nat.le_refl _) o3
              clear E
              have E := E1
              clear E1
              go_wp2_with fail
              refine (count_rd g b n cap zs r6 _ E.rd).mono ?_
              intro e w8 H
              cases hp : pN 2 r6 with
              | none =>
                obtain ⟨T, rfl⟩ := H.none hp
                have ET := E.tu.trans T
                have e0 := HE.out
                rw [hp] at e0
                have HN0 := hide (show pMod r = none from e0)
                clear e0
                unfold panicE
                go_wp2
                exact ⟨rfl, RP.ofNone HN0.out ET⟩
              | some xx =>
                obtain ⟨bss, r7⟩ := xx
                obtain ⟨T, v, rfl, hv, R⟩ := H.some hp
                have e0 := HE.out
                rw [hp] at e0
                simp only [Option.bind_some, Option.map_some] at e0
                obtain rfl : v = .int .i64 bss := hv
                have HE0 := hide e0
                clear e0 HE
                have HE := HE0
                clear HE0
                have E1 := E.call T R
                have o1 := o1s.out.turn _ _ o1 T
                have o2 := o2s.out.turn _ _ o2 T
                have o3 := o3s.out.turn _ _ o3 T
                clear E T R H hp
                have E := E1
                clear E1
                clear q f
                have q := E.k2.cell 4
                have f := E.k2.frozen 4
                simp at q
                have E1 := E.set 4 (.int .i64 bss)
                have o1 := o1s.out.set _ _ 4 (.int .i64 bss) (Nat.le_refl _) o1
                have o2 := o2s.out.set _ _ 4 (.int .i64 bss) (Nat.le_refl _) o2
                have o3 := o3s.out.set _ _ 4 (.int .i64 bss) (Nat.le_refl _) o3
                clear E
                have E := E1
                clear E1
                go_wp2_with fail
                refine (HN.out _ r7 E.rd).mono ?_
                intro e w9 H
                cases hp : pN 1 r7 with
                | none =>
                  obtain ⟨T, rfl⟩ := H.none hp
                  have ET := E.tu.trans T
                  have e0 := HE.out
                  rw [hp] at e0
                  have HN0 := hide (show pMod r = none from e0)
                  clear e0
                  unfold panicE
                  go_wp2
                  exact ⟨rfl, RP.ofNone HN0.out ET⟩
                | some xx =>
                  obtain ⟨xr, r8⟩ := xx
                  obtain ⟨T, v, rfl, hv, R⟩ := H.some hp
                  have e0 := HE.out
                  rw [hp] at e0
                  simp only [Option.bind_some, Option.map_some] at e0
                  have hx := (gives_pN1 _ _ _ E.rd.range hp).1
                  obtain ⟨mr, rfl⟩ : ∃ mr : Nat, xr = (mr : Int) := ⟨xr.toNat, by omega⟩
                  have hmr : mr ≤ 255 := by omega
                  clear hx
                  obtain rfl : v = .int .i64 mr := hv
                  simp only [Int.toNat_natCast] at e0
                  have HE0 := hide e0
                  clear e0 HE
                  have HE := HE0
                  clear HE0
                  have E1 := E.call T R
                  have o1 := o1s.out.turn _ _ o1 T
                  have o2 := o2s.out.turn _ _ o2 T
                  have o3 := o3s.out.turn _ _ o3 T
                  clear E T R H hp
                  have E := E1
                  clear E1
                  clear q f
                  go_wp2_with fail
                  refine (takenIcount_rd g b n cap zs mr r8 _ E.rd (by omega)).mono ?_
                  intro e w10 H
                  cases hp : pM (pN 2) mr r8 with
                  | none =>
                    obtain ⟨T, rfl⟩ := H.none hp
                    have ET := E.tu.trans T
                    have e0 := HE.out
                    rw [hp] at e0
                    have HN0 := hide (show pMod r = none from e0)
                    clear e0
                    unfold panicE
                    go_wp2
                    exact ⟨rfl, RP.ofNone HN0.out ET⟩
                  | some xx =>
                    obtain ⟨rz, r9⟩ := xx
                    obtain ⟨T, v, rfl, hv, R⟩ := H.some hp
                    have e0 := HE.out
                    rw [hp] at e0
                    simp only [Option.bind_some, Option.map_some] at e0
                    obtain ⟨a5, c5, rfl, o5⟩ := hv
                    have hb1 : w.heap.size + 2 ≤ _ := E.k2.lt
                    have HTR := hide (And.intro (fun k hk => (o1.lt k hk).2) (And.intro (fun B (hB : B ∈ bl) k hk => ((o2.rows B hB).2.lt k hk).2) (fun k hk => (o5.lt k hk).1)))
                    have o5 := o5.mono hb1
                    have HE0 := hide e0
                    clear e0 HE
                    have HE := HE0
                    clear HE0
                    have E1 := E.call T R
                    have o1 := o1s.out.turn _ _ o1 T
                    have o2 := o2s.out.turn _ _ o2 T
                    have o3 := o3s.out.turn _ _ o3 T
                    clear E T R H hp
                    have E := E1
                    clear E1
                    have o5s := hide (stay_og hg (Nat.le_refl _) : Stay w g (fun W => OG 3 1 clI W (w.heap.size + 2) (.slice a5 rz.length c5) rz))
                    have q := E.k2.cell 5
                    have f := E.k2.frozen 5
                    simp at q
                    have E1 := E.set 5 (.slice a5 rz.length c5)
                    have o1 := o1s.out.set _ _ 5 (.slice a5 rz.length c5) (Nat.le_refl _) o1
                    have o2 := o2s.out.set _ _ 5 (.slice a5 rz.length c5) (Nat.le_refl _) o2
                    have o3 := o3s.out.set _ _ 5 (.slice a5 rz.length c5) (Nat.le_refl _) o3
                    have o5 := o5s.out.set _ _ 5 (.slice a5 rz.length c5) (Nat.le_refl _) o5
                    clear E
                    have E := E1
                    clear E1
                    go_wp2_with fail
                    refine (HN.out _ r9 E.rd).mono ?_
                    intro e w11 H
                    cases hp : pN 1 r9 with
                    | none =>
                      obtain ⟨T, rfl⟩ := H.none hp
                      have ET := E.tu.trans T
                      have e0 := HE.out
                      rw [hp] at e0
                      have HN0 := hide (show pMod r = none from e0)
                      clear e0
                      unfold panicE
                      go_wp2
                      exact ⟨rfl, RP.ofNone HN0.out ET⟩
                    | some xx =>
                      obtain ⟨xi, r10⟩ := xx
                      obtain ⟨T, v, rfl, hv, R⟩ := H.some hp
                      have e0 := HE.out
                      rw [hp] at e0
                      simp only [Option.bind_some, Option.map_some] at e0
                      have hx := (gives_pN1 _ _ _ E.rd.range hp).1
                      obtain ⟨mi, rfl⟩ : ∃ mi : Nat, xi = (mi : Int) := ⟨xi.toNat, by omega⟩
                      have hmi : mi ≤ 255 := by omega
                      clear hx
                      obtain rfl : v = .int .i64 mi := hv
                      simp only [Int.toNat_natCast] at e0
                      have HE0 := hide e0
                      clear e0 HE
                      have HE := HE0
                      clear HE0
                      have E1 := E.call T R
                      have o1 := o1s.out.turn _ _ o1 T
                      have o2 := o2s.out.turn _ _ o2 T
                      have o3 := o3s.out.turn _ _ o3 T
                      have o5 := o5s.out.turn _ _ o5 T
                      clear E T R H hp
                      have E := E1
                      clear E1
                      clear q f
                      go_wp2_with fail
                      refine (takenTtext_rd g b n cap zs mi r10 _ E.rd (by omega)).mono ?_
                      intro e w12 H
                      cases hp : pM pT mi r10 with
                      | none =>
                        obtain ⟨T, rfl⟩ := H.none hp
                        have ET := E.tu.trans T
                        have e0 := HE.out
                        rw [hp] at e0
                        have HN0 := hide (show pMod r = none from e0)
                        clear e0
                        unfold panicE
                        go_wp2
                        exact ⟨rfl, RP.ofNone HN0.out ET⟩
                      | some xx =>
                        obtain ⟨ss, r11⟩ := xx
                        obtain ⟨T, v, rfl, hv, R⟩ := H.some hp
                        have e0 := HE.out
                        rw [hp] at e0
                        simp only [Option.bind_some, Option.map_some] at e0
                        obtain ⟨a6, c6, rfl, o6⟩ := hv
                        have hb1 : w.heap.size + 2 ≤ _ := E.k2.lt
                        have o6 := o6.mono hb1
                        have HE0 := hide e0
                        clear e0 HE
                        have HE := HE0
                        clear HE0
                        have E1 := E.call T R
                        have o1 := o1s.out.turn _ _ o1 T
                        have o2 := o2s.out.turn _ _ o2 T
                        have o3 := o3s.out.turn _ _ o3 T
                        have o5 := o5s.out.turn _ _ o5 T
                        clear E T R H hp
                        have E := E1
                        clear E1
                        have o6s := hide (stay_og hg (Nat.le_refl _) : Stay w g (fun W => OG 9 1 clT W (w.heap.size + 2) (.slice a6 ss.length c6) ss))
                        have q := E.k2.cell 6
                        have f := E.k2.frozen 6
                        simp at q
                        have E1 := E.set 6 (.slice a6 ss.length c6)
                        have o1 := o1s.out.set _ _ 6 (.slice a6 ss.length c6) (Nat.le_refl _) o1
                        have o2 := o2s.out.set _ _ 6 (.slice a6 ss.length c6) (Nat.le_refl _) o2
                        have o3 := o3s.out.set _ _ 6 (.slice a6 ss.length c6) (Nat.le_refl _) o3
                        have o5 := o5s.out.set _ _ 6 (.slice a6 ss.length c6) (Nat.le_refl _) o5
                        have o6 := o6s.out.set _ _ 6 (.slice a6 ss.length c6) (Nat.le_refl _) o6
                        clear E
                        have E := E1
                        clear E1
                        go_wp2_with fail
                        refine (HN.out _ r11 E.rd).mono ?_
                        intro e w13 H
                        cases hp : pN 1 r11 with
                        | none =>
                          obtain ⟨T, rfl⟩ := H.none hp
                          have ET := E.tu.trans T
                          have e0 := HE.out
                          rw [hp] at e0
                          have HN0 := hide (show pMod r = none from e0)
                          clear e0
                          unfold panicE
                          go_wp2
                          exact ⟨rfl, RP.ofNone HN0.out ET⟩
                        | some xx =>
                          obtain ⟨xe, r12⟩ := xx
                          obtain ⟨T, v, rfl, hv, R⟩ := H.some hp
                          have e0 := HE.out
                          rw [hp] at e0
                          simp only [Option.bind_some, Option.map_some] at e0
                          have hx := (gives_pN1 _ _ _ E.rd.range hp).1
                          obtain ⟨me, rfl⟩ : ∃ me : Nat, xe = (me : Int) := ⟨xe.toNat, by omega⟩
                          have hme : me ≤ 255 := by omega
                          clear hx
                          obtain rfl : v = .int .i64 me := hv
                          simp only [Int.toNat_natCast] at e0
                          have HE0 := hide e0
                          clear e0 HE
                          have HE := HE0
                          clear HE0
                          have E1 := E.call T R
                          have o1 := o1s.out.turn _ _ o1 T
                          have o2 := o2s.out.turn _ _ o2 T
                          have o3 := o3s.out.turn _ _ o3 T
                          have o5 := o5s.out.turn _ _ o5 T
                          have o6 := o6s.out.turn _ _ o6 T
                          clear E T R H hp
                          have E := E1
                          clear E1
                          clear q f
                          go_wp2_with fail
                          refine (takenXexport_rd g b n cap zs me r12 _ E.rd (by omega)).mono ?_
                          intro e w14 H
                          cases hp : pM pX me r12 with
                          | none =>
                            obtain ⟨T, rfl⟩ := H.none hp
                            have ET := E.tu.trans T
                            have e0 := HE.out
                            rw [hp] at e0
                            have HN0 := hide (show pMod r = none from e0)
                            clear e0
                            unfold panicE
                            go_wp2
                            exact ⟨rfl, RP.ofNone HN0.out ET⟩
                          | some xx =>
                            obtain ⟨es, r13⟩ := xx
                            obtain ⟨T, v, rfl, hv, R⟩ := H.some hp
                            have e0 := HE.out
                            rw [hp] at e0
                            simp only [Option.bind_some, Option.map_some] at e0
                            obtain ⟨a7, c7, rfl, o7⟩ := hv
                            have hb1 : w.heap.size + 2 ≤ _ := E.k2.lt
                            have o7 := o7.mono hb1
                            have HE0 := hide e0
                            clear e0 HE
                            have HE := HE0
                            clear HE0
                            have E1 := E.call T R
                            have o1 := o1s.out.turn _ _ o1 T
                            have o2 := o2s.out.turn _ _ o2 T
                            have o3 := o3s.out.turn _ _ o3 T
                            have o5 := o5s.out.turn _ _ o5 T
                            have o6 := o6s.out.turn _ _ o6 T
                            clear E T R H hp
                            have E := E1
                            clear E1
                            have o7s := hide (stay_og hg (Nat.le_refl _) : Stay w g (fun W => OG 58 3 clX W (w.heap.size + 2) (.slice a7 es.length c7) es))
                            have q := E.k2.cell 7
                            have f := E.k2.frozen 7
                            simp at q
                            have E1 := E.set 7 (.slice a7 es.length c7)
                            have o1 := o1s.out.set _ _ 7 (.slice a7 es.length c7) (Nat.le_refl _) o1
                            have o2 := o2s.out.set _ _ 7 (.slice a7 es.length c7) (Nat.le_refl _) o2
                            have o3 := o3s.out.set _ _ 7 (.slice a7 es.length c7) (Nat.le_refl _) o3
                            have o5 := o5s.out.set _ _ 7 (.slice a7 es.length c7) (Nat.le_refl _) o5
                            have o6 := o6s.out.set _ _ 7 (.slice a7 es.length c7) (Nat.le_refl _) o6
                            have o7 := o7s.out.set _ _ 7 (.slice a7 es.length c7) (Nat.le_refl _) o7
                            clear E
                            have E := E1
                            clear E1
                            have kk := E.k2
                            simp at kk
                            obtain ⟨u0, u1, u2, u3, u4, u5, u6, u7⟩ := kk.eight'
                            obtain ⟨p0, p1, p2, p3, p4, p5, p6, p7⟩ := E.k1.eight'
                            obtain ⟨g0, g1, g2, g3, g4, g5, g6, g7⟩ := E.k1.froz
                            have HF := hide (E.st8 (.string nm) (.slice a1 tz.length c1) (.slice a2 bl.length c2) (.slice a3 dz.length c3) (.int .i64 bss) (.slice a5 rz.length c5) (.slice a6 ss.length c6) (.slice a7 es.length c7))
                            have o1 := o1s.out.st8 o1 (.string nm) (.slice a1 tz.length c1) (.slice a2 bl.length c2) (.slice a3 dz.length c3) (.int .i64 bss) (.slice a5 rz.length c5) (.slice a6 ss.length c6) (.slice a7 es.length c7)
                            have o2 := o2s.out.st8 o2 (.string nm) (.slice a1 tz.length c1) (.slice a2 bl.length c2) (.slice a3 dz.length c3) (.int .i64 bss) (.slice a5 rz.length c5) (.slice a6 ss.length c6) (.slice a7 es.length c7)
                            have o3 := o3s.out.st8 o3 (.string nm) (.slice a1 tz.length c1) (.slice a2 bl.length c2) (.slice a3 dz.length c3) (.int .i64 bss) (.slice a5 rz.length c5) (.slice a6 ss.length c6) (.slice a7 es.length c7)
                            have o5 := o5s.out.st8 o5 (.string nm) (.slice a1 tz.length c1) (.slice a2 bl.length c2) (.slice a3 dz.length c3) (.int .i64 bss) (.slice a5 rz.length c5) (.slice a6 ss.length c6) (.slice a7 es.length c7)
                            have o6 := o6s.out.st8 o6 (.string nm) (.slice a1 tz.length c1) (.slice a2 bl.length c2) (.slice a3 dz.length c3) (.int .i64 bss) (.slice a5 rz.length c5) (.slice a6 ss.length c6) (.slice a7 es.length c7)
                            have o7 := o7s.out.st8 o7 (.string nm) (.slice a1 tz.length c1) (.slice a2 bl.length c2) (.slice a3 dz.length c3) (.int .i64 bss) (.slice a5 rz.length c5) (.slice a6 ss.length c6) (.slice a7 es.length c7)
                            have HO := hide (And.intro o1 (And.intro o2 (And.intro o3 (And.intro o5 (And.intro o6 o7)))))
                            clear E kk o1 o2 o3 o5 o6 o7
                            go_wp2
                            obtain ⟨FR, FT, FK⟩ := HF.out
                            obtain ⟨o1, o2, o3, o5, o6, o7⟩ := HO.out
                            obtain ⟨t0, t1, t2, t3, t4, t5, t6, t7⟩ := FK.eight'
                            refine bodyPost_ret_by (v := .agg (modV ⟨nm, tz, bl.map (fun B => B.2.2.2), dz, bss, rz, ss, es⟩ a1 c1 a2 c2 bl a3 c3 a5 c5 a6 c6 a7 c7)) ?_ rfl (RP.ofSome (x := ⟨nm, tz, bl.map (fun B => B.2.2.2), dz, bss, rz, ss, es⟩) (r := r13) HE.out FT ⟨a1, c1, a2, c2, bl, a3, c3, a5, c5, a6, c6, a7, c7, rfl, ⟨o1.mono (by omega), o2.mono (by omega), rfl, o3.mono (by omega), o5.mono (by omega), o6.mono (by omega), o7.mono (by omega), ?_, ?_, ?_⟩⟩ FR)
                            · unfold st8 at t0 t1 t2 t3 t4 t5 t6 t7
                              simp only [results, Try.results29]
                              simp [go_sem, t0, t1, t2, t3, t4, t5, t6, t7, modV]
                            · exact fun k hk B hB e => by have h1 := HTB.out.1 k hk; have h2 := HTB.out.2 B hB k e; omega
                            · exact fun k hk e => by have h1 := HTR.out.1 k hk; have h2 := HTR.out.2.2 k e; omega
                            · exact fun k hk B hB e => by have h1 := HTR.out.2.1 B hB k e; have h2 := HTR.out.2.2 k hk; omega
theorem og_mk {α : Type} (t : TypeId) (sz : Nat) (f : α → List Value) (W : World) (base : Nat) (hb : base ≤ W.heap.size) (xs : List α) (cs : Array Value) (hcs : cs = (xs.flatMap f).toArray) (hl : (xs.flatMap f).length = xs.length * sz) (hm : xs.length ≤ maxLen) : OG t sz f (W.alloc (.cells cs t)) base (.slice (some ⟨W.heap.size, 0, none⟩) xs.length xs.length) xs := by
  subst hcs
  exact ⟨hl, .inr ⟨W.heap.size, xs.length, _, rfl, hb, heap_alloc_new W _, Nat.le_refl _, hm, by rw [List.size_toArray]; exact hl, by rw [← hl]; exact List.take_length⟩⟩
theorem ne_kind {W : World} {base base' n n' sz sz' : Nat} {t t' : TypeId} {v v' : Value} {xs xs' : List Value} (h : W.ownsRow base t sz v n xs) (h' : W.ownsRow base' t' sz' v' n' xs') (hne : t ≠ t') : v.ownBlock = none ∨ v.ownBlock ≠ v'.ownBlock := by
  cases e : v.ownBlock with
  | none => exact .inl rfl
  | some j =>
    refine .inr (fun e' => ?_)
    obtain ⟨c1, k1⟩ := own_kind h e
    obtain ⟨c2, k2⟩ := own_kind h' e'.symm
    exact hne (blk_kind k1 k2)
theorem ne_some {v v' : Value} (h : ∀ k, v.ownBlock = some k → v'.ownBlock ≠ some k) : v'.ownBlock = none ∨ v'.ownBlock ≠ v.ownBlock := by
  cases e : v'.ownBlock with
  | none => exact .inl rfl
  | some j => exact .inr (fun e' => h j e'.symm e)
theorem ne_some' {v v' : Value} (h : ∀ k, v.ownBlock = some k → v'.ownBlock ≠ some k) : v.ownBlock = none ∨ v.ownBlock ≠ v'.ownBlock := by
  cases e : v.ownBlock with
  | none => exact .inl rfl
  | some j => exact .inr (fun e' => h j e e'.symm)
theorem OBk.grown {W W' : World} {base : Nat} {v : Value} {bl : List Bk} {row : Option Nat} (h : OBk W base v bl) (hg : W.grownBy W' row) (h1 : v.ownBlock = none ∨ v.ownBlock ≠ row) (h2 : ∀ B ∈ bl, (Value.slice B.1 B.2.1 B.2.2.1).ownBlock = none ∨ (Value.slice B.1 B.2.1 B.2.2.1).ownBlock ≠ row) : OBk W' base v bl :=
  ⟨World.ownsRow.kept h.head hg h1, fun B hB => ⟨(h.rows B hB).1, (h.rows B hB).2.grown hg (h2 B hB)⟩, h.apart⟩
theorem OB.grown' {W W' : World} {base : Nat} {v : Value} {zs : List Int} {row : Option Nat} (h : OB W base v zs) (hg : W.grownBy W' row) (hk : v.ownBlock = none ∨ v.ownBlock ≠ row) : OB W' base v zs := ⟨World.ownsRow.kept h.1 hg hk, h.2⟩
structure Ma where
  a1 : Option Addr
  c1 : Nat
  a2 : Option Addr
  c2 : Nat
  bl : List Bk
  a3 : Option Addr
  c3 : Nat
  a5 : Option Addr
  c5 : Nat
  a6 : Option Addr
  c6 : Nat
  a7 : Option Addr
  c7 : Nat
abbrev MO (W : World) (base : Nat) (P : PMod) (M : Ma) : Prop := ModO W base P M.a1 M.c1 M.a2 M.c2 M.bl M.a3 M.c3 M.a5 M.c5 M.a6 M.c6 M.a7 M.c7
theorem MO.grow_r {W W' : World} {base g m c : Nat} {P : PMod} {M : Ma} {X : List Int} (h : MO W base P M) (hm : X.length = m) (O : OG 3 1 clI W' base (.slice (some ⟨g, 0, none⟩) (P.rz.length + m) c) (P.rz ++ X)) (hg : W.grownBy W' (Value.slice M.a5 P.rz.length M.c5).ownBlock) (hat : (Value.slice M.a5 P.rz.length M.c5).ownBlock = some g ∨ g = W.heap.size) :
    MO W' base { P with rz := P.rz ++ X } { M with a5 := some ⟨g, 0, none⟩, c5 := c } where
  t := h.t.grown hg (ne_some' h.tr)
  b := h.b.grown hg (ne_kind h.b.head h.r (by decide)) (fun B hB => ne_some (fun k hk => h.br k hk B hB))
  bls := h.bls
  d := h.d.grown' hg (ne_kind h.d.1 h.r (by decide))
  r := by rw [List.length_append, hm]; exact O
  i := h.i.grown hg (ne_kind h.i h.r (by decide))
  e := h.e.grown hg (ne_kind h.e h.r (by decide))
  tb := h.tb
  tr := fun k hk e => by
    have e' : some g = some k := e
    injection e' with e'
    subst e'
    rcases hat with e2 | e2
    · exact h.tr _ hk e2
    · have := (h.t.lt _ hk).2; omega
  br := fun k hk B hB e => by
    have e' : some g = some k := hk
    injection e' with e'
    subst e'
    rcases hat with e2 | e2
    · exact h.br _ e2 B hB e
    · have := ((h.b.rows B hB).2.lt _ e).2; omega
theorem MO.grow_t {W W' : World} {base g m c : Nat} {P : PMod} {M : Ma} {X : List Int} (h : MO W base P M) (hm : X.length = m) (O : OG 3 1 clI W' base (.slice (some ⟨g, 0, none⟩) (P.tz.length + m) c) (P.tz ++ X)) (hg : W.grownBy W' (Value.slice M.a1 P.tz.length M.c1).ownBlock) (hat : (Value.slice M.a1 P.tz.length M.c1).ownBlock = some g ∨ g = W.heap.size) :
    MO W' base { P with tz := P.tz ++ X } { M with a1 := some ⟨g, 0, none⟩, c1 := c } where
  t := by rw [List.length_append, hm]; exact O
  b := h.b.grown hg (ne_kind h.b.head h.t (by decide)) (fun B hB => ne_some (fun k hk => h.tb k hk B hB))
  bls := h.bls
  d := h.d.grown' hg (ne_kind h.d.1 h.t (by decide))
  r := h.r.grown hg (ne_some h.tr)
  i := h.i.grown hg (ne_kind h.i h.t (by decide))
  e := h.e.grown hg (ne_kind h.e h.t (by decide))
  tb := fun k hk B hB e => by
    have e' : some g = some k := hk
    injection e' with e'
    subst e'
    rcases hat with e2 | e2
    · exact h.tb _ e2 B hB e
    · have := ((h.b.rows B hB).2.lt _ e).2; omega
  tr := fun k hk e => by
    have e' : some g = some k := hk
    injection e' with e'
    subst e'
    rcases hat with e2 | e2
    · exact h.tr _ e2 e
    · have := (h.r.lt _ e).2; omega
  br := h.br
theorem MO.grow_i {W W' : World} {base g m c : Nat} {P : PMod} {M : Ma} {X : List ByteArray} (h : MO W base P M) (hm : X.length = m) (O : OG 9 1 clT W' base (.slice (some ⟨g, 0, none⟩) (P.ss.length + m) c) (P.ss ++ X)) (hg : W.grownBy W' (Value.slice M.a6 P.ss.length M.c6).ownBlock) :
    MO W' base { P with ss := P.ss ++ X } { M with a6 := some ⟨g, 0, none⟩, c6 := c } where
  t := h.t.grown hg (ne_kind h.t h.i (by decide))
  b := h.b.grown hg (ne_kind h.b.head h.i (by decide)) (fun B hB => ne_kind (h.b.rows B hB).2 h.i (by decide))
  bls := h.bls
  d := h.d.grown' hg (ne_kind h.d.1 h.i (by decide))
  r := h.r.grown hg (ne_kind h.r h.i (by decide))
  i := by rw [List.length_append, hm]; exact O
  e := h.e.grown hg (ne_kind h.e h.i (by decide))
  tb := h.tb
  tr := h.tr
  br := h.br
theorem MO.grow_e {W W' : World} {base g m c : Nat} {P : PMod} {M : Ma} {X : List Ex} (h : MO W base P M) (hm : X.length = m) (O : OG 58 3 clX W' base (.slice (some ⟨g, 0, none⟩) (P.es.length + m) c) (P.es ++ X)) (hg : W.grownBy W' (Value.slice M.a7 P.es.length M.c7).ownBlock) :
    MO W' base { P with es := P.es ++ X } { M with a7 := some ⟨g, 0, none⟩, c7 := c } where
  t := h.t.grown hg (ne_kind h.t h.e (by decide))
  b := h.b.grown hg (ne_kind h.b.head h.e (by decide)) (fun B hB => ne_kind (h.b.rows B hB).2 h.e (by decide))
  bls := h.bls
  d := h.d.grown' hg (ne_kind h.d.1 h.e (by decide))
  r := h.r.grown hg (ne_kind h.r h.e (by decide))
  i := h.i.grown hg (ne_kind h.i h.e (by decide))
  e := by rw [List.length_append, hm]; exact O
  tb := h.tb
  tr := h.tr
  br := h.br
theorem MO.grow_d {W W' : World} {base g m c : Nat} {P : PMod} {M : Ma} {X : List Int} (h : MO W base P M) (hm : X.length = m) (O : OB W' base (.slice (some ⟨g, 0, none⟩) (P.dz.length + m) c) (P.dz ++ X)) (hg : W.grownBy W' (Value.slice M.a3 P.dz.length M.c3).ownBlock) :
    MO W' base { P with dz := P.dz ++ X } { M with a3 := some ⟨g, 0, none⟩, c3 := c } where
  t := h.t.grown hg (ne_kind h.t h.d.1 (by decide))
  b := h.b.grown hg (ne_kind h.b.head h.d.1 (by decide)) (fun B hB => ne_kind (h.b.rows B hB).2 h.d.1 (by decide))
  bls := h.bls
  d := by rw [List.length_append, hm]; exact O
  r := h.r.grown hg (ne_kind h.r h.d.1 (by decide))
  i := h.i.grown hg (ne_kind h.i h.d.1 (by decide))
  e := h.e.grown hg (ne_kind h.e h.d.1 (by decide))
  tb := h.tb
  tr := h.tr
  br := h.br
theorem MO.grow_b {W W' : World} {base g c lo : Nat} {P : PMod} {M : Ma} {A : Option Addr} {C : Nat} {x : List Int} {v' : Value} (h : MO W base P M) (hx : OG 3 1 clI W lo (.slice A x.length C) x) (hb : base ≤ lo) (hlo : ∀ B ∈ M.bl, ∀ j, (Value.slice B.1 B.2.1 B.2.2.1).ownBlock = some j → j < lo) (ht : ∀ j, (Value.slice M.a1 P.tz.length M.c1).ownBlock = some j → j < lo) (hr : ∀ j, (Value.slice M.a5 P.rz.length M.c5).ownBlock = some j → j < lo)
    (hown : W'.ownsRow base 24 1 (.slice (some ⟨g, 0, none⟩) (M.bl.length + 1) c) (M.bl.length + 1) (M.bl.map (fun B => Value.slice B.1 B.2.1 B.2.2.1) ++ [.slice A x.length C])) (hg : W.grownBy W' (Value.slice M.a2 M.bl.length M.c2).ownBlock) :
    MO W' base { P with bl := P.bl ++ [x] } { M with a2 := some ⟨g, 0, none⟩, c2 := c, bl := M.bl ++ [(A, x.length, C, x)] } where
  t := h.t.grown hg (ne_kind h.t h.b.head (by decide))
  b := by
    have := h.b.push (lo := lo) rfl hx hb hlo hown hg
    show OBk W' base (.slice (some ⟨g, 0, none⟩) (M.bl ++ [((A, x.length, C, x) : Bk)]).length c) (M.bl ++ [(A, x.length, C, x)])
    rw [List.length_append]
    exact this
  bls := by
    show (M.bl ++ [((A, x.length, C, x) : Bk)]).map (fun B => B.2.2.2) = P.bl ++ [x]
    rw [List.map_append, h.bls]
    rfl
  d := h.d.grown' hg (ne_kind h.d.1 h.b.head (by decide))
  r := h.r.grown hg (ne_kind h.r h.b.head (by decide))
  i := h.i.grown hg (ne_kind h.i h.b.head (by decide))
  e := h.e.grown hg (ne_kind h.e h.b.head (by decide))
  tb := fun k hk B hB e => by
    rcases List.mem_append.1 hB with hB | hB
    · exact h.tb k hk B hB e
    · simp at hB
      subst hB
      have := (hx.lt _ e).1
      have := ht _ hk
      omega
  tr := h.tr
  br := fun k hk B hB e => by
    rcases List.mem_append.1 hB with hB | hB
    · exact h.br k hk B hB e
    · simp at hB
      subst hB
      have := (hx.lt _ e).1
      have := hr _ hk
      omega
theorem MO.kept {S : Nat → Prop} {W W' : World} {base : Nat} {P : PMod} {M : Ma} (h : MO W base P M) (ht : Turn S W W') (hS : ∀ k, S k → k < base ∨ ∃ cs, Blk W k cs 29) : MO W' base P M := by
  have key : ∀ {t : TypeId} {sz n : Nat} {v : Value} {xs : List Value}, W.ownsRow base t sz v n xs → t ≠ 29 → ∀ k, v.ownBlock = some k → ¬ S k := fun ho hne k hk s => by
    rcases hS k s with hs | ⟨cs, hs⟩
    · have := (World.ownsRow.lt ho k hk).1; omega
    · obtain ⟨c1, k1⟩ := own_kind ho hk
      exact hne (blk_kind k1 hs)
  have row : ∀ {t : TypeId} {sz n : Nat} {v : Value} {xs : List Value}, W.ownsRow base t sz v n xs → t ≠ 29 → W'.ownsRow base t sz v n xs := fun {t} {sz} {n} {v} {xs} ho hne => by
    have hk := key ho hne
    obtain ⟨hl, h0 | ⟨g, cap, cur, hv, hg, hh, h1, h2, h3, h4⟩⟩ := ho
    · exact ⟨hl, .inl h0⟩
    · exact ⟨hl, .inr ⟨g, cap, cur, hv, hg, turn_blk (w := W) ht hh (hk g (by rw [hv]; rfl)), h1, h2, h3, h4⟩⟩
  exact ⟨row h.t (by decide), ⟨row h.b.head (by decide), fun B hB => ⟨(h.b.rows B hB).1, row (h.b.rows B hB).2 (by decide)⟩, h.b.apart⟩, h.bls, ⟨row h.d.1 (by decide), h.d.2⟩, row h.r (by decide), row h.i (by decide), row h.e (by decide), h.tb, h.tr, h.br⟩
structure MB (w W : World) (r : Nat) (a : Option Addr) (n c : Nat) (zs : List Int) (k g : Nat) (P : PMod) (M : Ma) : Prop where
  d : Dst w W r a n c zs k
  box : Blk W g (modV P M.a1 M.c1 M.a2 M.c2 M.bl M.a3 M.c3 M.a5 M.c5 M.a6 M.c6 M.a7 M.c7) 29
  hg : w.heap.size ≤ g
  o : MO W w.heap.size P M
  ds : ∃ db, M.a3 = some ⟨db, 0, none⟩
theorem MB.turn {w W W' : World} {r : Nat} {a : Option Addr} {n c : Nat} {zs : List Int} {k k' g : Nat} {P : PMod} {M : Ma} (h : MB w W r a n c zs k g P M) (ht : Turn (fun j => j = r) W W') (d : Dst w W' r a n c zs k') : MB w W' r a n c zs k' g P M :=
  ⟨d, turn_blk ht h.box (by have := h.hg; have := h.d.lt; omega), h.hg, h.o.kept ht (fun j hj => .inl (by subst hj; exact h.d.lt)), h.ds⟩
theorem MB.below {w W W' : World} {r : Nat} {a : Option Addr} {n c : Nat} {zs : List Int} {k g : Nat} {P : PMod} {M : Ma} (h : MB w W r a n c zs k g P M) (hb : Below W.heap.size W W') : MB w W' r a n c zs k g P M :=
  ⟨h.d.below hb, h.box.below hb, h.hg, h.o.kept (S := fun _ => False) (turn_below hb) (fun j hj => absurd hj id), h.ds⟩
theorem MB.next {w W : World} {r : Nat} {a : Option Addr} {n c : Nat} {zs : List Int} {k g : Nat} {P : PMod} {M : Ma} (h : MB w W r a n c zs k g P M) (x : Int) (hx : Hid (zs.getD k 0 = x)) :
    Calls Try.prog 19 #[.pointer (some ⟨r, 0, none⟩)] W fun e w' => e = .returned (.int .i64 x) ∧ MB w w' r a n c zs (k + 1) g P M :=
  (h.d.next x hx).mono fun e w' ⟨he, hd, ht⟩ => ⟨he, h.turn ht hd⟩
theorem box_grown {W W' : World} {g n sz base : Nat} {t : TypeId} {v : Value} {xs : List Value} {cs : Array Value} (hb : Blk W g cs 29) (ho : W.ownsRow base t sz v n xs) (hg : W.grownBy W' v.ownBlock) (hne : t ≠ 29) : Blk W' g cs 29 :=
  grown_blk hg hb (fun e => by
    obtain ⟨c1, k1⟩ := own_kind ho e.symm
    exact hne (blk_kind k1 hb))
theorem MB.put {w W : World} {r : Nat} {a : Option Addr} {n c : Nat} {zs : List Int} {k g i : Nat} {v : Value} {cs : Array Value} {P : PMod} {M : Ma} (d : Dst w W r a n c zs k) (hg : w.heap.size ≤ g) (box : Blk W g cs 29) (o : MO W w.heap.size P M) (ds : ∃ db, M.a3 = some ⟨db, 0, none⟩) (e : cs.setIfInBounds i v = modV P M.a1 M.c1 M.a2 M.c2 M.bl M.a3 M.c3 M.a5 M.c5 M.a6 M.c6 M.a7 M.c7) : MB w (W.setCell ⟨g, i, none⟩ v) r a n c zs k g P M :=
  ⟨d.set hg i v, by rw [← e]; exact box.set i v, hg, o.kept (turn_set W g i v) (fun j hj => .inr (by subst hj; exact ⟨_, box⟩)), ds⟩
end Go.Proofs.Ytngdgogjlpjjpad
