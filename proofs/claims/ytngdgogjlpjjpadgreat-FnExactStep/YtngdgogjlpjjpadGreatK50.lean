import Derived.Test.YtngdgogjlpjjpadGreatK12
import Derived.Test.YtngdgogjlpjjpadGreatK35
import Derived.Test.YtngdgogjlpjjpadGreatK49
import Derived.Test.YtngdgogjlpjjpadGreatK31
import Derived.Test.YtngdgogjlpjjpadGreatK48
import Derived.Test.YtngdgogjlpjjpadGreatK15
import Derived.Test.YtngdgogjlpjjpadGreatK14
namespace Go.Proofs.YtngdgogjlpjjpadGreat
open Go.RowKit
set_option linter.unusedVariables false

theorem row_ob {w : World} {g base n : Nat} {zs : List Int} (h : Row8 w g zs) (hb : base ≤ g) (hn : zs.length = n) (hm : n ≤ maxLen) (hr : ∀ z ∈ zs, 0 ≤ z ∧ z ≤ 255) : OB w base (.slice (some ⟨g, 0, none⟩) n n) zs := by
  subst hn
  exact ⟨⟨by simp, .inr ⟨g, zs.length, _, rfl, hb, h, Nat.le_refl _, hm, by simp, by rw [List.take_of_length_le (by simp)]⟩⟩, hr⟩
theorem wrm_len (n1 n2 n3 : Nat) (x1 x2 x3 : List Int) (p s v : Int) : (wrm n1 n2 n3 x1 x2 x3 p s v).1.length + (wrm n1 n2 n3 x1 x2 x3 p s v).2.1.length + (wrm n1 n2 n3 x1 x2 x3 p s v).2.2.1.length ≤ x1.length + x2.length + x3.length + 1 := by
  unfold wrm
  repeat' split
  all_goals simp [put_len]
  all_goals omega
theorem own3_bs {w : World} {base : Nat} {a1 a2 a3 : Option Addr} {m1 d1 m2 d2 m3 d3 : Nat} {y1 y2 y3 : List Int} (h : Own3 w base (.slice a1 m1 d1) (.slice a2 m2 d2) (.slice a3 m3 d3) y1 y2 y3) : BS w a1 m1 d1 y1 ∧ BS w a2 m2 d2 y2 ∧ BS w a3 m3 d3 y3 :=
  ⟨h.1.bs, h.2.1.bs, h.2.2.1.bs⟩
theorem own3_turn {S : Nat → Prop} {w w' : World} {base : Nat} {v1 v2 v3 : Value} {y1 y2 y3 : List Int} (h : Own3 w base v1 v2 v3 y1 y2 y3) (t : Turn S w w') (hs : ∀ k, Blks v1 v2 v3 k → ¬ S k) : Own3 w' base v1 v2 v3 y1 y2 y3 :=
  ⟨turn_ob t h.1 (fun k hk => hs k (Or.inl hk)), turn_ob t h.2.1 (fun k hk => hs k (Or.inr (Or.inl hk))), turn_ob t h.2.2.1 (fun k hk => hs k (Or.inr (Or.inr hk))), h.2.2.2⟩
theorem own3_range {w : World} {base : Nat} {v1 v2 v3 : Value} {y1 y2 y3 : List Int} (h : Own3 w base v1 v2 v3 y1 y2 y3) : ∀ k, Blks v1 v2 v3 k → base ≤ k ∧ k < w.heap.size := by
  intro k hk
  rcases hk with e | e | e
  · exact h.1.lt k e
  · exact h.2.1.lt k e
  · exact h.2.2.1.lt k e

end Go.Proofs.YtngdgogjlpjjpadGreat

namespace Go.Proofs.YtngdgogjlpjjpadGreat
open Go.RowKit
set_option linter.unusedVariables false
set_option linter.unusedSimpArgs false
set_option maxRecDepth 100000

theorem ready_pre {md : Region.Mode} {ops : Array Oper} {listed : Array Bool} {i : Nat} {o : Oper} (hi : i ∈ Region.ready md ops listed) (ho : ops[i]? = some o) (e : Edge) (he : e ∈ o.after) (hb : Region.binds md e = true) : listed.getD e.on false = true := by
  obtain ⟨_, o', ho', h⟩ := mem_ready.1 hi
  rw [ho] at ho'
  injection ho' with e'
  subst e'
  exact h e he hb
theorem ready_last {md : Region.Mode} {ops : Array Oper} {listed : Array Bool} (hr : Region.ready md ops listed = []) (i : Nat) (o : Oper) (ho : ops[i]? = some o) (hp : ∀ e ∈ o.after, Region.binds md e = true → listed.getD e.on false = true) : listed.getD i true = true := by
  cases h : listed.getD i true
  · have : i ∈ Region.ready md ops listed := mem_ready.2 ⟨h, o, ho, hp⟩
    rw [hr] at this
    cases this
  · rfl
def putL (A : Act) (l : List (Nat × Value)) : Act := l.foldl (fun a p => a.put (some p.1) p.2) A
/-- How far the region has come. -/
structure SV where
  b0 : Bool
  b1 : Bool
  b2 : Bool
  b3 : Bool
  b4 : Bool
  b5 : Bool
  b6 : Bool
  b7 : Bool
  b8 : Bool
  b9 : Bool
  b10 : Bool
  b11 : Bool
  b12 : Bool
  b13 : Bool
  b14 : Bool
  b15 : Bool
  b16 : Bool
  b17 : Bool
  y0 : Value
  y1 : Value
  y2 : Value
  y3 : Value
  y4 : Value
  y5 : Value
  y6 : Value
  y7 : Value
  y8 : Value
  y9 : Value
  y10 : Value
  y11 : Value
  y12 : Value
  y13 : Value
  y16 : Value
  y17 : Value
  ca : Option Addr
  nr : Nat
  cc : Nat
  A1 : Option Addr
  M1 : Nat
  D1 : Nat
  A2 : Option Addr
  M2 : Nat
  D2 : Nat
  A3 : Option Addr
  M3 : Nat
  D3 : Nat
  G0 : Nat
  G1 : Nat
def SV.listed (v : SV) : Array Bool := #[v.b0, v.b1, v.b2, v.b3, v.b4, v.b5, v.b6, v.b7, v.b8, v.b9, v.b10, v.b11, v.b12, v.b13, v.b14, v.b15, v.b16, v.b17]
/-- What holds of the world while the call's parts come up: W0 the world at the start. -/
structure SF (W0 : World) (kn n1 n2 n3 rn : Nat) (pc : Int) (kz x1 x2 x3 : List Int) (rs : List Rg) (R : Res) (v : SV) (W : World) : Prop where
  hB : Below W0.heap.size W0 W
  p1 : v.b1 = true → v.b6 = false → ∃ g, v.y1 = .agg #[.int .i64 pc, .slice (some ⟨g, 0, none⟩) kn kn] ∧ RowI W g kz
  p3 : v.b3 = true → v.b6 = false → ∃ g1 g2 g3, v.y3 = .agg #[.slice (some ⟨g1, 0, none⟩) n1 n1, .slice (some ⟨g2, 0, none⟩) n2 n2, .slice (some ⟨g3, 0, none⟩) n3 n3] ∧ Row8 W g1 x1 ∧ Row8 W g2 x2 ∧ Row8 W g3 x3
  p5 : v.b5 = true → v.b6 = false → ∃ g, v.y5 = .slice (some ⟨g, 0, none⟩) rn rn ∧ RowR W g rs
  p6 : v.b6 = true → v.y6 = .tuple #[.agg #[.int .i64 R.pc, .slice v.ca v.nr v.cc], .agg #[.slice v.A1 v.M1 v.D1, .slice v.A2 v.M2 v.D2, .slice v.A3 v.M3 v.D3], .int .i64 R.did, .int .i64 R.num] ∧ OI W W0.heap.size (.slice v.ca v.nr v.cc) R.rg ∧ Own3 W W0.heap.size (.slice v.A1 v.M1 v.D1) (.slice v.A2 v.M2 v.D2) (.slice v.A3 v.M3 v.D3) R.x1 R.x2 R.x3
  p12 : v.b12 = true → v.y12 = .pointer (some ⟨v.G0, 0, none⟩) ∧ W0.heap.size ≤ v.G0 ∧ ∃ c0 c1, Blk W v.G0 #[c0, c1] 58 ∧ (v.b14 = true → c0 = .int .i64 R.pc ∧ c1 = .slice v.ca v.nr v.cc)
  p13 : v.b13 = true → v.y13 = .pointer (some ⟨v.G1, 0, none⟩) ∧ W0.heap.size ≤ v.G1 ∧ ∃ c0 c1 c2, Blk W v.G1 #[c0, c1, c2] 38 ∧ (v.b15 = true → c0 = .slice v.A1 v.M1 v.D1 ∧ c1 = .slice v.A2 v.M2 v.D2 ∧ c2 = .slice v.A3 v.M3 v.D3)
section
variable {W0 : World} {kn n1 n2 n3 rn : Nat} {pc : Int} {kz x1 x2 x3 : List Int} {rs : List Rg} {R : Res} {v : SV} {W : World}
theorem SF.below (h : SF W0 kn n1 n2 n3 rn pc kz x1 x2 x3 rs R v W) {W' : World} (hb : Below W.heap.size W W') : SF W0 kn n1 n2 n3 rn pc kz x1 x2 x3 rs R v W' where
  hB := h.hB.trans (hb.mono h.hB.size)
  p1 := fun e f => by obtain ⟨g, e1, r⟩ := h.p1 e f; exact ⟨g, e1, r.below hb⟩
  p3 := fun e f => by obtain ⟨g1, g2, g3, e1, r1, r2, r3⟩ := h.p3 e f; exact ⟨g1, g2, g3, e1, r1.below hb, r2.below hb, r3.below hb⟩
  p5 := fun e f => by obtain ⟨g, e1, r⟩ := h.p5 e f; exact ⟨g, e1, r.below hb⟩
  p6 := fun e => ⟨(h.p6 e).1, (h.p6 e).2.1.below hb, own3_below (h.p6 e).2.2 hb⟩
  p12 := fun e => by obtain ⟨e1, l, c0, c1, k, f⟩ := h.p12 e; exact ⟨e1, l, c0, c1, k.below hb, f⟩
  p13 := fun e => by obtain ⟨e1, l, c0, c1, c2, k, f⟩ := h.p13 e; exact ⟨e1, l, c0, c1, c2, k.below hb, f⟩
theorem SF.at1 (h : SF W0 kn n1 n2 n3 rn pc kz x1 x2 x3 rs R v W) (g : Nat) (r : RowI W g kz) : SF W0 kn n1 n2 n3 rn pc kz x1 x2 x3 rs R { v with b1 := true, y1 := .agg #[.int .i64 pc, .slice (some ⟨g, 0, none⟩) kn kn] } W :=
  ⟨h.hB, fun _ _ => ⟨g, rfl, r⟩, h.p3, h.p5, h.p6, h.p12, h.p13⟩
theorem SF.at3 (h : SF W0 kn n1 n2 n3 rn pc kz x1 x2 x3 rs R v W) (g1 g2 g3 : Nat) (r1 : Row8 W g1 x1) (r2 : Row8 W g2 x2) (r3 : Row8 W g3 x3) : SF W0 kn n1 n2 n3 rn pc kz x1 x2 x3 rs R { v with b3 := true, y3 := .agg #[.slice (some ⟨g1, 0, none⟩) n1 n1, .slice (some ⟨g2, 0, none⟩) n2 n2, .slice (some ⟨g3, 0, none⟩) n3 n3] } W :=
  ⟨h.hB, h.p1, fun _ _ => ⟨g1, g2, g3, rfl, r1, r2, r3⟩, h.p5, h.p6, h.p12, h.p13⟩
theorem SF.at5 (h : SF W0 kn n1 n2 n3 rn pc kz x1 x2 x3 rs R v W) (g : Nat) (r : RowR W g rs) : SF W0 kn n1 n2 n3 rn pc kz x1 x2 x3 rs R { v with b5 := true, y5 := .slice (some ⟨g, 0, none⟩) rn rn } W :=
  ⟨h.hB, h.p1, h.p3, fun _ _ => ⟨g, rfl, r⟩, h.p6, h.p12, h.p13⟩
theorem SF.at6 (h : SF W0 kn n1 n2 n3 rn pc kz x1 x2 x3 rs R v W) (h14 : v.b14 = false) (h15 : v.b15 = false) {W' : World} {e : Ending} (hp : StPost W R e W') :
    ∃ y6' ca' nr' cc' A1' M1' D1' A2' M2' D2' A3' M3' D3', e = .returned y6' ∧ SF W0 kn n1 n2 n3 rn pc kz x1 x2 x3 rs R { v with b6 := true, y6 := y6', ca := ca', nr := nr', cc := cc', A1 := A1', M1 := M1', D1 := D1', A2 := A2', M2 := M2', D2 := D2', A3 := A3', M3 := M3', D3 := D3' } W' := by
  obtain ⟨ca', nr', cc', A1', M1', D1', A2', M2', D2', A3', M3', D3', rfl, ho, hm, hb⟩ := hp
  refine ⟨_, ca', nr', cc', A1', M1', D1', A2', M2', D2', A3', M3', D3', rfl, h.hB.trans (hb.mono h.hB.size), fun _ f => (by cases f), fun _ f => (by cases f), fun _ f => (by cases f), fun _ => ⟨rfl, ho.mono h.hB.size, own3_mono hm h.hB.size⟩, fun e => ?_, fun e => ?_⟩
  · obtain ⟨e1, l, c0, c1, k, f⟩ := h.p12 e
    exact ⟨e1, l, c0, c1, k.below hb, fun f => (by have f' : v.b14 = true := f; rw [h14] at f'; cases f')⟩
  · obtain ⟨e1, l, c0, c1, c2, k, f⟩ := h.p13 e
    exact ⟨e1, l, c0, c1, c2, k.below hb, fun f => (by have f' : v.b15 = true := f; rw [h15] at f'; cases f')⟩
theorem SF.at12 (h : SF W0 kn n1 n2 n3 rn pc kz x1 x2 x3 rs R v W) (h14 : v.b14 = false) (c0 c1 : Value) : SF W0 kn n1 n2 n3 rn pc kz x1 x2 x3 rs R { v with b12 := true, y12 := .pointer (some ⟨W.heap.size, 0, none⟩), G0 := W.heap.size } (W.alloc (.cells #[c0, c1] 58)) := by
  have hb : Below W.heap.size W (W.alloc (.cells #[c0, c1] 58)) := (Below.refl _ _).alloc (Nat.le_refl _) _
  have h' := h.below hb
  exact ⟨h'.hB, h'.p1, h'.p3, h'.p5, h'.p6, fun _ => ⟨rfl, h.hB.size, c0, c1, Blk.new _ _ _, fun f => (by have f' : v.b14 = true := f; rw [h14] at f'; cases f')⟩, h'.p13⟩
theorem SF.at13 (h : SF W0 kn n1 n2 n3 rn pc kz x1 x2 x3 rs R v W) (h15 : v.b15 = false) (c0 c1 c2 : Value) : SF W0 kn n1 n2 n3 rn pc kz x1 x2 x3 rs R { v with b13 := true, y13 := .pointer (some ⟨W.heap.size, 0, none⟩), G1 := W.heap.size } (W.alloc (.cells #[c0, c1, c2] 38)) := by
  have hb : Below W.heap.size W (W.alloc (.cells #[c0, c1, c2] 38)) := (Below.refl _ _).alloc (Nat.le_refl _) _
  have h' := h.below hb
  exact ⟨h'.hB, h'.p1, h'.p3, h'.p5, h'.p6, h'.p12, fun _ => ⟨rfl, h.hB.size, c0, c1, c2, Blk.new _ _ _, fun f => (by have f' : v.b15 = true := f; rw [h15] at f'; cases f')⟩⟩
theorem blk_ne {W : World} {g h : Nat} {c d : Array Value} {s t : TypeId} (k : Blk W g c s) (l : Blk W h d t) (e : s ≠ t) : g ≠ h := by
  intro f
  subst f
  unfold Blk at k l
  rw [k] at l
  injection l with l
  injection l with l1 l2
  exact e l2
theorem SF.at14 (h : SF W0 kn n1 n2 n3 rn pc kz x1 x2 x3 rs R v W) (h6 : v.b6 = true) (h12 : v.b12 = true) (h13 : v.b13 = true) : SF W0 kn n1 n2 n3 rn pc kz x1 x2 x3 rs R { v with b14 := true } ((W.setCell ⟨v.G0, 0, none⟩ (.int .i64 R.pc)).setCell ⟨v.G0, 1, none⟩ (.slice v.ca v.nr v.cc)) := by
  obtain ⟨e6, ho, hm⟩ := h.p6 h6
  obtain ⟨e1, l, c0, c1, k, f⟩ := h.p12 h12
  obtain ⟨u1, lv, d0, d1, d2, k', f'⟩ := h.p13 h13
  have T : Turn (fun j => j = v.G0) W ((W.setCell ⟨v.G0, 0, none⟩ (.int .i64 R.pc)).setCell ⟨v.G0, 1, none⟩ (.slice v.ca v.nr v.cc)) := (turn_setg W v.G0 0 _).trans (turn_setg _ v.G0 1 _)
  have nb : ∀ {u : Value} {z : List Int}, OB W W0.heap.size u z → ∀ j, u.ownBlock = some j → ¬ j = v.G0 := fun hv j hj e => ob_ne hv k (by decide) (by rw [hj, e])
  have ni : ∀ j, (Value.slice v.ca v.nr v.cc).ownBlock = some j → ¬ j = v.G0 := fun j hj e => oi_ne ho k (by decide) (by rw [hj, e])
  have no : ∀ {p : Prop}, v.b6 = false → p := fun f => by rw [h6] at f; cases f
  refine ⟨below_turn h.hB T (fun j e => by have e' : j = v.G0 := e; omega) h.hB.size, fun _ f => no f, fun _ f => no f, fun _ f => no f, fun _ => ⟨e6, turn_oi T ho ni, turn_ob T hm.1 (nb hm.1), turn_ob T hm.2.1 (nb hm.2.1), turn_ob T hm.2.2.1 (nb hm.2.2.1), hm.2.2.2⟩, fun _ => ⟨e1, l, _, _, ?_, fun _ => ⟨rfl, rfl⟩⟩, fun _ => ⟨u1, lv, d0, d1, d2, turn_blk T k' (fun e => blk_ne k' k (by decide) e), f'⟩⟩
  have := (k.set 0 (.int .i64 R.pc)).set 1 (.slice v.ca v.nr v.cc)
  simpa using this
theorem SF.at15 (h : SF W0 kn n1 n2 n3 rn pc kz x1 x2 x3 rs R v W) (h6 : v.b6 = true) (h12 : v.b12 = true) (h13 : v.b13 = true) : SF W0 kn n1 n2 n3 rn pc kz x1 x2 x3 rs R { v with b15 := true } (((W.setCell ⟨v.G1, 0, none⟩ (.slice v.A1 v.M1 v.D1)).setCell ⟨v.G1, 1, none⟩ (.slice v.A2 v.M2 v.D2)).setCell ⟨v.G1, 2, none⟩ (.slice v.A3 v.M3 v.D3)) := by
  obtain ⟨e6, ho, hm⟩ := h.p6 h6
  obtain ⟨e1, l, c0, c1, k, f⟩ := h.p12 h12
  obtain ⟨u1, lv, d0, d1, d2, k', f'⟩ := h.p13 h13
  have T : Turn (fun j => j = v.G1) W (((W.setCell ⟨v.G1, 0, none⟩ (.slice v.A1 v.M1 v.D1)).setCell ⟨v.G1, 1, none⟩ (.slice v.A2 v.M2 v.D2)).setCell ⟨v.G1, 2, none⟩ (.slice v.A3 v.M3 v.D3)) := ((turn_setg W v.G1 0 _).trans (turn_setg _ v.G1 1 _)).trans (turn_setg _ v.G1 2 _)
  have nb : ∀ {u : Value} {z : List Int}, OB W W0.heap.size u z → ∀ j, u.ownBlock = some j → ¬ j = v.G1 := fun hv j hj e => ob_ne hv k' (by decide) (by rw [hj, e])
  have ni : ∀ j, (Value.slice v.ca v.nr v.cc).ownBlock = some j → ¬ j = v.G1 := fun j hj e => oi_ne ho k' (by decide) (by rw [hj, e])
  have no : ∀ {p : Prop}, v.b6 = false → p := fun f => by rw [h6] at f; cases f
  refine ⟨below_turn h.hB T (fun j e => by have e' : j = v.G1 := e; omega) h.hB.size, fun _ f => no f, fun _ f => no f, fun _ f => no f, fun _ => ⟨e6, turn_oi T ho ni, turn_ob T hm.1 (nb hm.1), turn_ob T hm.2.1 (nb hm.2.1), turn_ob T hm.2.2.1 (nb hm.2.2.1), hm.2.2.2⟩, fun _ => ⟨e1, l, c0, c1, turn_blk T k (fun e => blk_ne k k' (by decide) e), f⟩, fun _ => ⟨u1, lv, _, _, _, ?_, fun _ => ⟨rfl, rfl, rfl⟩⟩⟩
  have := ((k'.set 0 (.slice v.A1 v.M1 v.D1)).set 1 (.slice v.A2 v.M2 v.D2)).set 2 (.slice v.A3 v.M3 v.D3)
  simpa using this
end
/-- The facts of the region. -/
structure IF (W0 : World) (kn n1 n2 n3 rn : Nat) (pc : Int) (kz x1 x2 x3 : List Int) (rs : List Rg) (R : Res) (ka : Option Addr) (kc : Nat) (a1 : Option Addr) (c1 : Nat) (a2 : Option Addr) (c2 : Nat) (a3 : Option Addr) (c3 : Nat) (ra : Option Addr) (rc : Nat) (v : SV) (W : World) : Prop where
  e0 : v.b0 = true → v.y0 = .agg #[.int .i64 pc, .slice ka kn kc]
  e2 : v.b2 = true → v.y2 = .agg #[.slice a1 n1 c1, .slice a2 n2 c2, .slice a3 n3 c3]
  e4 : v.b4 = true → v.y4 = .slice ra rn rc
  e7 : v.b7 = true → v.y7 = v.y6 ∧ v.b6 = true
  e8 : v.b8 = true → v.y8 = .agg #[.int .i64 R.pc, .slice v.ca v.nr v.cc]
  e9 : v.b9 = true → v.y9 = .agg #[.slice v.A1 v.M1 v.D1, .slice v.A2 v.M2 v.D2, .slice v.A3 v.M3 v.D3]
  e10 : v.b10 = true → v.y10 = .int .i64 R.did
  e11 : v.b11 = true → v.y11 = .int .i64 R.num
  e12 : v.b12 = false → v.b14 = false
  e13 : v.b13 = false → v.b15 = false
  e16 : v.b16 = true → v.y16 = .int .i64 R.did
  e17 : v.b17 = true → v.y17 = .int .i64 R.num
  e6 : v.b6 = false → v.b7 = false ∧ v.b8 = false ∧ v.b9 = false ∧ v.b10 = false ∧ v.b11 = false ∧ v.b14 = false ∧ v.b15 = false
  F : SF W0 kn n1 n2 n3 rn pc kz x1 x2 x3 rs R v W
end Go.Proofs.YtngdgogjlpjjpadGreat

namespace Go.Proofs.YtngdgogjlpjjpadGreat
open Go.RowKit
set_option linter.unusedVariables false
set_option linter.unusedSimpArgs false
set_option maxRecDepth 100000

theorem putL_eval_other {A : Act} {t : Nat} : ∀ {l : List (Nat × Value)}, (∀ p ∈ l, p.1 ≠ t) → (putL A l).eval (.tmp t) = A.eval (.tmp t)
  | [], _ => rfl
  | p :: l, h => by
    show (putL (A.put (some p.1) p.2) l).eval (.tmp t) = _
    rw [putL_eval_other (fun q hq => h q (List.mem_cons_of_mem _ hq))]
    exact Act.eval_put (fun d hd e => h p (List.mem_cons_self ..) (by cases hd; cases e; rfl))
theorem putL_size {A : Act} : ∀ {l : List (Nat × Value)}, (putL A l).tmps.size = A.tmps.size
  | [] => rfl
  | p :: l => by
    show (putL (A.put (some p.1) p.2) l).tmps.size = _
    rw [putL_size]
    simp [Act.put]
theorem putL_eval {A : Act} {t : Nat} {v : Value} : ∀ {l r : List (Nat × Value)}, t < A.tmps.size → (∀ p ∈ r, p.1 ≠ t) → (putL A (l ++ (t, v) :: r)).eval (.tmp t) = v
  | [], r, ht, h => by
    show (putL (A.put (some t) v) r).eval (.tmp t) = v
    rw [putL_eval_other h]
    simp [Act.eval, Act.put, ht]
  | p :: l, r, ht, h => by
    show (putL (A.put (some p.1) p.2) (l ++ (t, v) :: r)).eval (.tmp t) = v
    exact putL_eval (by simpa [Act.put] using ht) h
theorem put_put (A : Act) (t : Nat) (v u : Value) : (A.put (some t) v).put (some t) u = A.put (some t) u := by
  simp [Act.put]
theorem putL_put {A : Act} {t : Nat} {v u : Value} : ∀ {l r : List (Nat × Value)}, (∀ p ∈ r, p.1 ≠ t) → (putL A (l ++ (t, v) :: r)).put (some t) u = putL A (l ++ (t, u) :: r)
  | [], [], _ => put_put A t v u
  | [], p :: r, h => by
    have hp := h p (List.mem_cons_self ..)
    have e1 : putL A ([] ++ (t, v) :: p :: r) = putL (A.put (some p.1) p.2) ([] ++ (t, v) :: r) := by
      show putL ((A.put (some t) v).put (some p.1) p.2) r = putL ((A.put (some p.1) p.2).put (some t) v) r
      rw [Act.put_comm A v p.2 (fun d hd e => hp (by cases hd; cases e; rfl))]
    have e2 : putL A ([] ++ (t, u) :: p :: r) = putL (A.put (some p.1) p.2) ([] ++ (t, u) :: r) := by
      show putL ((A.put (some t) u).put (some p.1) p.2) r = putL ((A.put (some p.1) p.2).put (some t) u) r
      rw [Act.put_comm A u p.2 (fun d hd e => hp (by cases hd; cases e; rfl))]
    rw [e1, e2]
    exact putL_put (fun q hq => h q (List.mem_cons_of_mem _ hq))
  | p :: l, r, h => by
    show (putL (A.put (some p.1) p.2) (l ++ (t, v) :: r)).put (some t) u = putL (A.put (some p.1) p.2) (l ++ (t, u) :: r)
    exact putL_put h
theorem oper_value {P : Program} {o : Oper} {a : Act} {w w' : World} {v : Value} {K : Act → World → Prop} {Q : Exit → Act → World → Prop} (h : (execOp a.eval o).run P w = .ok (.value v) w') (hk : K (a.put o.dst v) w') : o.wp P a w K Q := by
  unfold Oper.wp
  rw [h]
  exact hk
theorem oper_skip {P : Program} {o : Oper} {a : Act} {w w' : World} {K : Act → World → Prop} {Q : Exit → Act → World → Prop} (h : (execOp a.eval o).run P w = .ok .skip w') (hk : K (a.put o.dst undef) w') : o.wp P a w K Q := by
  unfold Oper.wp
  rw [h]
  exact hk
theorem oper_call {P : Program} {o : Oper} {a : Act} {w w' : World} {f : Nat} {args : Array Value} {K : Act → World → Prop} {Q : Exit → Act → World → Prop} (h : (execOp a.eval o).run P w = .ok (.enter f args) w') {R : Ending → World → Prop} (hc : Calls P f args w' R) (hk : ∀ e w'', R e w'' → ∃ v, e = .returned v ∧ K (a.put o.dst v) w'') : o.wp P a w K Q := by
  unfold Oper.wp
  rw [h]
  refine hc.mono fun e w'' hr => ?_
  obtain ⟨v, rfl, hv⟩ := hk e w'' hr
  exact hv
theorem wpOp_plain {P : Program} {ops : Array Oper} {Q : Exit → Act → World → Prop} {i : Nat} {o : Oper} {K : Act → World → Prop} {a : Act} {w : World} (ho : ops[i]? = some o) (hg : o.guard = none) (h : o.wp P a w K Q) : wpOp P ops Q i K a w := by
  unfold wpOp
  rw [ho]
  simp only [Region.wanted, hg]
  exact .inl h

theorem wpOp_value {P : Program} {ops : Array Oper} {Q : Exit → Act → World → Prop} {i : Nat} {o : Oper} {K : Act → World → Prop} {a : Act} {w w' : World} {v : Value} (ho : ops[i]? = some o) (hg : o.guard = none) (h : (execOp a.eval o).run P w = .ok (.value v) w') (hk : K (a.put o.dst v) w') : wpOp P ops Q i K a w :=
  wpOp_plain ho hg (oper_value h hk)
theorem wpOp_skip {P : Program} {ops : Array Oper} {Q : Exit → Act → World → Prop} {i : Nat} {o : Oper} {K : Act → World → Prop} {a : Act} {w w' : World} (ho : ops[i]? = some o) (hg : o.guard = none) (h : (execOp a.eval o).run P w = .ok .skip w') (hk : K (a.put o.dst undef) w') : wpOp P ops Q i K a w :=
  wpOp_plain ho hg (oper_skip h hk)
theorem wpOp_call {P : Program} {ops : Array Oper} {Q : Exit → Act → World → Prop} {i : Nat} {o : Oper} {K : Act → World → Prop} {a : Act} {w w' : World} {f : Nat} {args : Array Value} (ho : ops[i]? = some o) (hg : o.guard = none) (h : (execOp a.eval o).run P w = .ok (.enter f args) w') {R : Ending → World → Prop} (hc : Calls P f args w' R) (hk : ∀ e w'', R e w'' → ∃ v, e = .returned v ∧ K (a.put o.dst v) w'') : wpOp P ops Q i K a w :=
  wpOp_plain ho hg (oper_call h hc hk)
theorem ev_of {a : Act} {t : Nat} {v : Value} (h : a.eval (.tmp t) = v) : a.tmps[t]?.getD undef = v := by
  simpa [Act.eval] using h
end Go.Proofs.YtngdgogjlpjjpadGreat

namespace Go.Proofs.YtngdgogjlpjjpadGreat
open Go.RowKit
set_option linter.unusedVariables false
set_option linter.unusedSimpArgs false
set_option maxRecDepth 100000

set_option maxHeartbeats 400000 in
theorem szCore_hi (pc : Int) (a : Option Addr) (n cap : Nat) (l : Int) (w : World) (h0 : 0 ≤ l) (h1 : l ≤ 1048576) (hn : n ≤ maxLen) (hs : (n : Int) ≤ l) :
    Calls Tryz.prog 17 #[.agg #[.int .i64 pc, .slice a n cap], .int .i64 l] w fun e w' => e = .returned (.int .i64 (l - n)) ∧ Below w.heap.size w w' := by
  have HZ := hide (fun w => szIntS_any a n cap l w h0 h1 hn)
  rw [if_neg (by omega)] at HZ
  go_enter Tryz.func17, Tryz.ntmps17
  go_wp2_with (go_at_call 76; refine (HZ.out _).mono ?_; rintro e w' ⟨rfl, rfl⟩)
  go_ret
  exact ⟨rfl, (Below.refl _ _).alloc (Nat.le_refl _) _⟩
set_option maxHeartbeats 400000 in
theorem szCore_lo (pc : Int) (a : Option Addr) (n cap : Nat) (l : Int) (w : World) (h0 : 0 ≤ l) (h1 : l ≤ 1048576) (hn : n ≤ maxLen) (hs : l < (n : Int)) :
    Calls Tryz.prog 17 #[.agg #[.int .i64 pc, .slice a n cap], .int .i64 l] w fun e w' => e = .returned (.int .i64 (-1)) ∧ Below w.heap.size w w' := by
  have HZ := hide (fun w => szIntS_any a n cap l w h0 h1 hn)
  rw [if_pos hs] at HZ
  go_enter Tryz.func17, Tryz.ntmps17
  go_wp2_with (go_at_call 76; refine (HZ.out _).mono ?_; rintro e w' ⟨rfl, rfl⟩)
  go_ret
  exact ⟨rfl, (Below.refl _ _).alloc (Nat.le_refl _) _⟩

set_option maxHeartbeats 1000000 in
theorem toCore_any (pc : Int) (a : Option Addr) (n cap : Nat) (zs : List Int) (w : World) (h : IS w a n cap zs) (hn : n ≤ 1048576) :
    Calls Tryz.prog 21 #[.agg #[.int .i64 pc, .slice a n cap]] w fun e w' => ∃ g, w.heap.size ≤ g ∧ e = .returned (.agg #[.int .i64 pc, .slice (some ⟨g, 0, none⟩) n n]) ∧ RowI w' g zs ∧ Below w.heap.size w w' := by
  have hB0 : Below w.heap.size w (((w.alloc (.cells #[.int .i64 pc, .slice a n cap] 52)).alloc (.cells #[.int .i64 0, .slice none 0 0] 58)).alloc (.cells #[.int .i64 pc, .slice none 0 0] 58)) := (((Below.refl _ _).alloc (Nat.le_refl _) _).alloc (by simp) _).alloc (by simp; omega) _
  have kr := (Blk.new (w.alloc (.cells #[.int .i64 pc, .slice a n cap] 52)) #[.int .i64 0, .slice none 0 0] 58).alloc (.cells #[.int .i64 pc, .slice none 0 0] 58)
  have ko := Blk.new ((w.alloc (.cells #[.int .i64 pc, .slice a n cap] 52)).alloc (.cells #[.int .i64 0, .slice none 0 0] 58)) #[.int .i64 pc, .slice none 0 0] 58
  simp only [World.size_alloc] at kr ko
  go_enter Tryz.func21, Tryz.ntmps21
  go_wp2_with fail
  refine (toIntS_any a n cap zs _ (h.below hB0) hn).mono ?_
  rintro e w1 ⟨rfl, r1, hb1⟩
  have kr1 := kr.below hb1
  have ko1 := ko.below hb1
  have hB1 := hB0.trans (hb1.mono (by simp; omega))
  simp only [World.size_alloc] at r1
  obtain ⟨q1, q2, q3⟩ := kr1.two'
  obtain ⟨p1, p2, p3⟩ := ko1.two'
  have hz := ((kr1.other ⟨w.heap.size + 1 + 1, 1, none⟩ (.slice (some ⟨w.heap.size + 1 + 1 + 1, 0, none⟩) n n) (by dsimp only; omega)).set 0 (.int .i64 pc)).set 1 (.slice (some ⟨w.heap.size + 1 + 1 + 1, 0, none⟩) n n)
  have rr : RowI (((w1.setCell ⟨w.heap.size + 1 + 1, 1, none⟩ (.slice (some ⟨w.heap.size + 1 + 1 + 1, 0, none⟩) n n)).setCell ⟨w.heap.size + 1, 0, none⟩ (.int .i64 pc)).setCell ⟨w.heap.size + 1, 1, none⟩ (.slice (some ⟨w.heap.size + 1 + 1 + 1, 0, none⟩) n n)) (w.heap.size + 1 + 1 + 1) zs := by
    unfold RowI at *
    rw [heap_setCell_other _ _ _ _ (by dsimp only; omega), heap_setCell_other _ _ _ _ (by dsimp only; omega), heap_setCell_other _ _ _ _ (by dsimp only; omega)]
    exact r1
  have hB2 := ((hB1.setCell (p := ⟨w.heap.size + 1 + 1, 1, none⟩) (by dsimp only; omega) (.slice (some ⟨w.heap.size + 1 + 1 + 1, 0, none⟩) n n)).setCell (p := ⟨w.heap.size + 1, 0, none⟩) (by dsimp only; omega) (.int .i64 pc)).setCell (p := ⟨w.heap.size + 1, 1, none⟩) (by dsimp only; omega) (.slice (some ⟨w.heap.size + 1 + 1 + 1, 0, none⟩) n n)
  have hz' : Blk (((w1.setCell ⟨w.heap.size + 1 + 1, 1, none⟩ (.slice (some ⟨w.heap.size + 1 + 1 + 1, 0, none⟩) n n)).setCell ⟨w.heap.size + 1, 0, none⟩ (.int .i64 pc)).setCell ⟨w.heap.size + 1, 1, none⟩ (.slice (some ⟨w.heap.size + 1 + 1 + 1, 0, none⟩) n n)) (w.heap.size + 1) #[.int .i64 pc, .slice (some ⟨w.heap.size + 1 + 1 + 1, 0, none⟩) n n] 58 := by simpa using hz
  obtain ⟨s1, s2, s3⟩ := hz'.two'
  have HX := hide (And.intro rr hB2)
  clear hz hz' rr hB2 hB1 hb1 r1 kr1 ko1 kr ko hB0
  go_wp2
  exact bodyPost_ret (v := .agg #[.int .i64 pc, .slice (some ⟨w.heap.size + 1 + 1 + 1, 0, none⟩) n n]) (by simp [results, Tryz.results21, go_sem, s1, s2]) rfl ⟨_, by omega, rfl, HX.out.1, HX.out.2⟩

set_option maxHeartbeats 1000000 in
theorem eqCore_same (pc : Int) (a b : Option Addr) (n cap cap' : Nat) (zs : List Int) (w : World) (h : IS w a n cap zs) (k : IS w b n cap' zs) :
    Calls Tryz.prog 25 #[.agg #[.int .i64 pc, .slice a n cap], .agg #[.int .i64 pc, .slice b n cap']] w fun e w' => e = .returned (.bool true) ∧ Below w.heap.size w w' := by
  have hB0 : Below w.heap.size w ((w.alloc (.cells #[.int .i64 pc, .slice a n cap] 58)).alloc (.cells #[.int .i64 pc, .slice b n cap'] 58)) := ((Below.refl _ _).alloc (Nat.le_refl _) _).alloc (by simp) _
  have hp : (pc != pc) = false := by simp
  go_enter Tryz.func25, Tryz.ntmps25
  go_wp2_with fail
  refine (eqIntS_any a b n cap n cap' zs zs _ (h.below hB0) (k.below hB0)).mono ?_
  rw [decide_eq_true rfl]
  rintro e w1 ⟨rfl, hb1⟩
  go_wp2
  go_ret
  exact ⟨rfl, hB0.trans (hb1.mono (by simp; omega))⟩

set_option maxHeartbeats 1000000 in
theorem markCore_any (pc : Int) (a : Option Addr) (n cap base : Nat) (zs : List Int) (k : Nat) (w : World) (h : OI w base (.slice a n cap) zs) (hn : n ≤ 2097152) (hk : k ≤ 4194304) :
    Calls Tryz.prog 28 #[.agg #[.int .i64 pc, .slice a n cap], .int .i64 k] w fun e w' => e = .returned (.int .i64 ((k + n : Nat) : Int)) ∧ OI w' base (.slice a n cap) (marksI k n) ∧ Turn (fun j => (Value.slice a n cap).ownBlock = some j) w w' := by
  have h' := h.below ((Below.refl w.heap.size w).alloc (Nat.le_refl _) (.cells #[.int .i64 pc, .slice a n cap] 58))
  have T0 : Turn (fun j => (Value.slice a n cap).ownBlock = some j) w (w.alloc (.cells #[.int .i64 pc, .slice a n cap] 58)) := turn_alloc w _
  go_enter Tryz.func28, Tryz.ntmps28
  go_wp2_with fail
  refine (markIntS_any a n cap base zs k _ h' hn hk).mono ?_
  rintro e w1 ⟨rfl, p1, t1⟩
  go_wp2
  go_ret
  exact ⟨rfl, p1, T0.trans t1⟩
set_option maxHeartbeats 1000000 in
theorem heldCore_any (pc : Int) (a : Option Addr) (n cap : Nat) (k : Nat) (w : World) (h : IS w a n cap (marksI k n)) (hn : n ≤ 2097152) (hk : k ≤ 4194304) :
    Calls Tryz.prog 31 #[.agg #[.int .i64 pc, .slice a n cap], .int .i64 k] w fun e w' => e = .returned (.int .i64 ((k + n : Nat) : Int)) ∧ Below w.heap.size w w' := by
  have hB0 : Below w.heap.size w (w.alloc (.cells #[.int .i64 pc, .slice a n cap] 58)) := (Below.refl _ _).alloc (Nat.le_refl _) _
  have e0 : (0 : Int) ≤ ((k + n : Nat) : Int) := by omega
  go_enter Tryz.func31, Tryz.ntmps31
  go_wp2_with fail
  refine (heldIntS_any a n cap k _ (h.below hB0) hn hk).mono ?_
  rintro e w1 ⟨rfl, rfl⟩
  go_wp2
  go_ret
  exact ⟨rfl, hB0⟩
end Go.Proofs.YtngdgogjlpjjpadGreat

namespace Go.Proofs.YtngdgogjlpjjpadGreat
open Go.RowKit
set_option linter.unusedVariables false

set_option maxHeartbeats 400000 in
theorem szRegionS_any (a : Option Addr) (n cap : Nat) (l : Int) (w : World) (h0 : 0 ≤ l) (h1 : l ≤ 1048576) (hn : n ≤ maxLen) :
    Calls Tryz.prog 19 #[.slice a n cap, .int .i64 l] w fun e w' => e = .returned (.int .i64 (if l < n then -1 else l - n)) ∧ w' = w := by
  unfold maxLen at hn
  by_cases h : l < n
  · go_enter Tryz.func19, Tryz.ntmps19
    go_wp2
    go_ret
    exact ⟨rfl, rfl⟩
  · go_enter Tryz.func19, Tryz.ntmps19
    go_wp2
    go_ret
    exact ⟨rfl, rfl⟩

theorem szRegionS_lo (a : Option Addr) (n cap : Nat) (l : Int) (w : World) (h0 : 0 ≤ l) (h1 : l ≤ 1048576) (hn : n ≤ maxLen) (h : l < n) :
    Calls Tryz.prog 19 #[.slice a n cap, .int .i64 l] w fun e w' => e = .returned (.int .i64 (-1)) ∧ w = w' :=
  (szRegionS_any a n cap l w h0 h1 hn).mono fun e w' he => ⟨by rw [he.1, if_pos h], he.2.symm⟩
theorem szRegionS_hi (a : Option Addr) (n cap : Nat) (l : Int) (w : World) (h0 : 0 ≤ l) (h1 : l ≤ 1048576) (hn : n ≤ maxLen) (h : n ≤ l) :
    Calls Tryz.prog 19 #[.slice a n cap, .int .i64 l] w fun e w' => e = .returned (.int .i64 (l - n)) ∧ w = w' :=
  (szRegionS_any a n cap l w h0 h1 hn).mono fun e w' he => ⟨by rw [he.1, if_neg (by omega)], he.2.symm⟩


set_option maxHeartbeats 1000000 in
theorem toRegionS_any (x : Option Addr) (n cap : Nat) (rs : List Rg) (w : World) (h : RS w x n cap rs) (hn : n ≤ 1048576) :
    Calls Tryz.prog 23 #[.slice x n cap] w fun e w' => ∃ g, w.heap.size ≤ g ∧ e = .returned (.slice (some ⟨g, 0, none⟩) n n) ∧ RowR w' g rs ∧ Below w.heap.size w w' := by
  obtain ⟨i0, hi, hz0, hz1, hz2⟩ := info_parts infoR
  have hl := h.1
  go_enter Tryz.func23, Tryz.ntmps23
  go_wp2_with (at_make; refine wpList_make_full _ rfl _ _ 63 rfl w.heap.size 135 i0 (.agg #[.int .i64 0, .int .i64 0, .int .i64 0, .bool false, .bool false, .bool false]) 6 Tryz.underlying63 hi hz0 hz1 .i64 .i64 _ _ n rfl rfl rfl rfl (by rw [hz2]; omega) (by unfold maxLen; omega) (Nat.le_refl _) ?_; intro w1 hown hgr)
  have hrow := rowR_of_made hown
  have hbel := below_grown hgr
  clear hown hgr hi hz0 hz1 hz2
  go_loopw [4] (fun i wr => ∃ k : Nat, k ≤ n ∧ i = .int .i64 k ∧ RowR wr w.heap.size (midR rs k) ∧ Below w.heap.size w wr) (fun i _ => n - (intOf i).toNat)
  case atStart => exact ⟨0, Nat.zero_le _, rfl, by rw [midR_zero, hl]; exact hrow, hbel⟩
  case round =>
    obtain ⟨k, hk, rfl, hR, hB⟩ := hrel
    clear hrow hbel
    by_cases hlt : k < n
    · have hlt' : (k : Int) < (n : Int) := by omega
      obtain ⟨b, off, rfl⟩ := h.some (by omega)
      have hat := (h.below hB).at k hlt
      have hset : ∀ W, Below wr.heap.size wr W → RowR (set6 W w.heap.size (k * 6) (rs.getD k z6)) w.heap.size (midR rs (k + 1)) := by
        intro W hW
        have := (hR.below hW).set k (by rw [midR_len]; omega) (rs.getD k z6)
        rw [midR_set rs k (by omega)] at this
        exact this
      have HSET := hide hset
      clear hset
      have hg := hR.2 k (by rw [midR_len]; omega)
      generalize rs.getD k z6 = r at *
      generalize (midR rs k).getD k z6 = r0 at *
      obtain ⟨g1, g2, g3, g4, g5, g6⟩ := r
      have q1 := hat.1
      have q2 := hat.2.1
      have q3 := hat.2.2.1
      have q4 := hat.2.2.2.1
      have q5 := hat.2.2.2.2.1
      have q6 := hat.2.2.2.2.2
      simp only at q1 q2 q3 q4 q5 q6
      go_wp2_with fail
      refine (toRegion_any g1 g2 g3 g4 g5 g6 _).mono ?_
      rintro e w2 ⟨rfl, hb2⟩
      have hB2 := hB.trans (hb2.mono hB.size)
      have hg2 := hg.below hb2
      have hfz : ∀ i, w2.frozen? ⟨w.heap.size, i, none⟩ = false := (hR.below hb2).frozen
      have HS2 := hide (HSET.out _ hb2)
      have HB2 := hide (set6_below hB2 (Nat.le_refl _) (k * 6) (g1, g2, g3, g4, g5, g6))
      clear HSET hR q1 q2 q3 q4 q5 q6 hat
      obtain ⟨p1, p2, p3, p4, p5, p6⟩ := hg2
      go_wp2
      go_roundw
      case rel => exact ⟨k + 1, by omega, by go_num, HS2.out, HB2.out⟩
      case measure => simp [intOf]; omega
    · have e : Hid (k = n) := by show k = n; omega
      go_wp2
      go_ret
      exact ⟨_, Nat.le_refl _, rfl, by rw [e.out, ← hl, midR_all] at hR; exact hR, hB⟩
end Go.Proofs.YtngdgogjlpjjpadGreat
