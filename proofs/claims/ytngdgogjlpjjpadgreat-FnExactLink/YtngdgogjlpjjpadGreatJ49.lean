import Derived.Test.YtngdgogjlpjjpadGreatJ48
namespace Go.Proofs.YtngdgogjlpjjpadGreat
open Go.RowKit
set_option linter.unusedVariables false
set_option linter.unusedSimpArgs false
set_option maxRecDepth 100000

theorem cutY {S F : Nat → Nat → Option Addr → Nat → List PB → Option Addr → Nat → Option Addr → Nat → List TB → World → Prop} {G : Prop} (main : (∀ gm gb a0 c0 xs a2 c2 a5 c5 ts W, F gm gb a0 c0 xs a2 c2 a5 c5 ts W → S gm gb a0 c0 xs a2 c2 a5 c5 ts W) → G) (pf : ∀ gm gb a0 c0 xs a2 c2 a5 c5 ts W, F gm gb a0 c0 xs a2 c2 a5 c5 ts W → S gm gb a0 c0 xs a2 c2 a5 c5 ts W) : G := main pf

/-- IN A REGION OF MANY ORDERS: what has grown since W0, and the box (if it has been made) with its zeros -/
def Zb (zc : Array Value) (t : TypeId) (W0 X : World) (o : Option Nat) : Prop := Below W0.heap.size W0 X ∧ ∀ g, o = some g → W0.heap.size ≤ g ∧ Blk X g zc t
section
variable {zc : Array Value} {t : TypeId} {W0 X Y : World} {o : Option Nat}
theorem zb_new (zc : Array Value) (t : TypeId) (W0 : World) : Zb zc t W0 W0 none := ⟨Below.refl _ _, fun g e => by cases e⟩
theorem Zb.below (h : Zb zc t W0 X o) (hb : Below X.heap.size X Y) : Zb zc t W0 Y o := ⟨h.1.trans (hb.mono h.1.size), fun g e => ⟨(h.2 g e).1, (h.2 g e).2.below hb⟩⟩
theorem Zb.drew (h : Zb zc t W0 X o) : Zb zc t W0 X.drew o := ⟨h.1.drew, fun g e => ⟨(h.2 g e).1, (h.2 g e).2⟩⟩
theorem Zb.box (h : Zb zc t W0 X none) : Zb zc t W0 (X.alloc (.cells zc t)) (some X.heap.size) := ⟨h.1.alloc h.1.size _, fun g e => by cases e; exact ⟨h.1.size, Blk.new X zc t⟩⟩
end
/-- .. and a row of copies -/
structure Z2 (zc : Array Value) (t : TypeId) (n : Nat) (ms : List Md) (W0 X : World) (o : Option Nat) (g : Nat) (m : List Md) : Prop where
  z : Zb zc t W0 X o
  r : RowM X g n ms m
  l : m.length = n
section
variable {zc : Array Value} {t : TypeId} {n g : Nat} {ms m : List Md} {W0 X Y : World} {o : Option Nat}
theorem Z2.below (h : Z2 zc t n ms W0 X o g m) (hb : Below X.heap.size X Y) : Z2 zc t n ms W0 Y o g m := ⟨h.z.below hb, h.r.below hb, h.l⟩
theorem Z2.drew (h : Z2 zc t n ms W0 X o g m) : Z2 zc t n ms W0 X.drew o g m := ⟨h.z.drew, h.r.below (Below.refl _ _).drew, h.l⟩
theorem Z2.box (h : Z2 zc t n ms W0 X none g m) : Z2 zc t n ms W0 (X.alloc (.cells zc t)) (some X.heap.size) g m := ⟨h.z.box, h.r.below ((Below.refl _ _).alloc (Nat.le_refl _) _), h.l⟩
end
/-- .. and a layout -/
structure Z3 (zc : Array Value) (t : TypeId) (base : Nat) (L : Lay) (W0 X : World) (o : Option Nat) (a0 : Option Addr) (c0 : Nat) (xs : List PB) (a2 : Option Addr) (c2 : Nat) (a5 : Option Addr) (c5 : Nat) (ts : List TB) : Prop where
  z : Zb zc t W0 X o
  l : ∃ b, base ≤ b ∧ LayO X b L a0 c0 xs a2 c2 a5 c5 ts ∧ ∀ g, o = some g → g < b
/-- a layout's cells -/
abbrev lyV (L : Lay) (a0 : Option Addr) (c0 : Nat) (xs : List PB) (a2 : Option Addr) (c2 : Nat) (a5 : Option Addr) (c5 : Nat) (ts : List TB) : Array Value := #[.slice a0 xs.length c0, .int .i64 L.stack, .slice a2 L.slots.length c2, .int .i64 L.flash, .int .i64 L.ram, .slice a5 ts.length c5]
/-- what stands when the region is over -/
structure Fin5 (base : Nat) (L : Lay) (W0 : World) (gb : Nat) (a0 : Option Addr) (c0 : Nat) (xs : List PB) (a2 : Option Addr) (c2 : Nat) (a5 : Option Addr) (c5 : Nat) (ts : List TB) (W : World) : Prop where
  b : Below W0.heap.size W0 W
  g : W0.heap.size ≤ gb
  k : Blk W gb #[.slice a0 xs.length c0, .int .i64 L.stack, .slice a2 L.slots.length c2, .int .i64 L.flash, .int .i64 L.ram, .slice a5 ts.length c5] 32
  l : LayO W base L a0 c0 xs a2 c2 a5 c5 ts
section
variable {base : Nat} {L : Lay} {W0 X : World} {gb : Nat} {a0 : Option Addr} {c0 : Nat} {xs : List PB} {a2 : Option Addr} {c2 : Nat} {a5 : Option Addr} {c5 : Nat} {ts : List TB}
theorem Z3.fin {zc : Array Value} {t : TypeId} (h : Z3 zc t base L W0 X none a0 c0 xs a2 c2 a5 c5 ts) : Fin5 base L W0 X.heap.size a0 c0 xs a2 c2 a5 c5 ts (X.alloc (.cells #[.slice a0 xs.length c0, .int .i64 L.stack, .slice a2 L.slots.length c2, .int .i64 L.flash, .int .i64 L.ram, .slice a5 ts.length c5] 32)) := by
  have hb : Below X.heap.size X (X.alloc (.cells #[.slice a0 xs.length c0, .int .i64 L.stack, .slice a2 L.slots.length c2, .int .i64 L.flash, .int .i64 L.ram, .slice a5 ts.length c5] 32)) := (Below.refl _ _).alloc (Nat.le_refl _) _
  obtain ⟨b, hb1, hl, _⟩ := h.l
  exact ⟨h.z.1.trans (hb.mono h.z.1.size), h.z.1.size, Blk.new X _ _, (hl.mono hb1).below' hb⟩
theorem Z3.fin' (h : Z3 #[.slice none 0 0, .int .i64 0, .slice none 0 0, .int .i64 0, .int .i64 0, .slice none 0 0] 32 base L W0 X (some gb) a0 c0 xs a2 c2 a5 c5 ts) : Fin5 base L W0 gb a0 c0 xs a2 c2 a5 c5 ts ((((((X.setCell ⟨gb, 0, none⟩ (.slice a0 xs.length c0)).setCell ⟨gb, 1, none⟩ (.int .i64 L.stack)).setCell ⟨gb, 2, none⟩ (.slice a2 L.slots.length c2)).setCell ⟨gb, 3, none⟩ (.int .i64 L.flash)).setCell ⟨gb, 4, none⟩ (.int .i64 L.ram)).setCell ⟨gb, 5, none⟩ (.slice a5 ts.length c5)) := by
  obtain ⟨hg, hk⟩ := h.z.2 gb rfl
  have T : Turn (fun j => j = gb) X ((((((X.setCell ⟨gb, 0, none⟩ (.slice a0 xs.length c0)).setCell ⟨gb, 1, none⟩ (.int .i64 L.stack)).setCell ⟨gb, 2, none⟩ (.slice a2 L.slots.length c2)).setCell ⟨gb, 3, none⟩ (.int .i64 L.flash)).setCell ⟨gb, 4, none⟩ (.int .i64 L.ram)).setCell ⟨gb, 5, none⟩ (.slice a5 ts.length c5)) := (((((turn_set _ _ _ _).trans (turn_set _ _ _ _)).trans (turn_set _ _ _ _)).trans (turn_set _ _ _ _)).trans (turn_set _ _ _ _)).trans (turn_set _ _ _ _)
  have K := (((((hk.set 0 (.slice a0 xs.length c0)).set 1 (.int .i64 L.stack)).set 2 (.slice a2 L.slots.length c2)).set 3 (.int .i64 L.flash)).set 4 (.int .i64 L.ram)).set 5 (.slice a5 ts.length c5)
  have B := below_turn h.z.1 T (fun k e => by omega) h.z.1.size
  obtain ⟨b, hb1, hl, hlt⟩ := h.l
  have hgb := hlt gb rfl
  have O := hl.kept T (fun j hj _ e => by omega)
  generalize ((((((X.setCell ⟨gb, 0, none⟩ (.slice a0 xs.length c0)).setCell ⟨gb, 1, none⟩ (.int .i64 L.stack)).setCell ⟨gb, 2, none⟩ (.slice a2 L.slots.length c2)).setCell ⟨gb, 3, none⟩ (.int .i64 L.flash)).setCell ⟨gb, 4, none⟩ (.int .i64 L.ram)).setCell ⟨gb, 5, none⟩ (.slice a5 ts.length c5)) = Y at *
  exact ⟨B, hg, K, O.mono hb1⟩
end
/-- what must stay: the arguments' box, the first answer and its box -/
structure Kp (cf : Array Value) (tc : TypeId) (base : Nat) (L : Lay) (w W5 : World) (gb : Nat) (a0 : Option Addr) (c0 : Nat) (xs : List PB) (a2 : Option Addr) (c2 : Nat) (a5 : Option Addr) (c5 : Nat) (ts : List TB) (W : World) : Prop where
  be : Below w.heap.size w W
  kc : Blk W w.heap.size cf tc
  kw : Blk W gb #[.slice a0 xs.length c0, .int .i64 L.stack, .slice a2 L.slots.length c2, .int .i64 L.flash, .int .i64 L.ram, .slice a5 ts.length c5] 32
  lw : LayO W base L a0 c0 xs a2 c2 a5 c5 ts
  l5 : LayO W5 base L a0 c0 xs a2 c2 a5 c5 ts
  n5 : w.heap.size < W5.heap.size ∧ gb < W5.heap.size
  w5 : W5.heap.size ≤ W.heap.size
section
variable {cf : Array Value} {tc : TypeId} {base : Nat} {L : Lay} {w W5 W W' : World} {gb : Nat} {a0 : Option Addr} {c0 : Nat} {xs : List PB} {a2 : Option Addr} {c2 : Nat} {a5 : Option Addr} {c5 : Nat} {ts : List TB}
theorem Kp.turn {S : Nat → Prop} (h : Kp cf tc base L w W5 gb a0 c0 xs a2 c2 a5 c5 ts W) (t : Turn S W W') (hS : ∀ j, S j → W5.heap.size ≤ j) : Kp cf tc base L w W5 gb a0 c0 xs a2 c2 a5 c5 ts W' where
  be := below_turn h.be t (fun k s => by have := hS k s; have := h.n5.1; omega) h.be.size
  kc := turn_blk t h.kc (fun s => by have := hS _ s; have := h.n5.1; omega)
  kw := turn_blk t h.kw (fun s => by have := hS _ s; have := h.n5.2; omega)
  lw := by
    refine ⟨h.lw.p.kept t (fun k hk s => ?_) (fun x hx k hk s => ?_), h.lw.ps, h.lw.s.kept t (fun k hk s => ?_), h.lw.t.kept t (fun k hk s => ?_) (fun x hx k hk s => ?_), h.lw.tt, h.lw.sp⟩
    · have := (h.l5.p.lt.1 k hk).2; have := hS k s; omega
    · have := (h.l5.p.lt.2 x hx k hk).2; have := hS k s; omega
    · have := (h.l5.s.lt k hk).2; have := hS k s; omega
    · have := (h.l5.t.lt.1 k hk).2; have := hS k s; omega
    · have := (h.l5.t.lt.2 x hx k hk).2; have := hS k s; omega
  l5 := h.l5
  n5 := h.n5
  w5 := Nat.le_trans h.w5 t.size
theorem Kp.below (h : Kp cf tc base L w W5 gb a0 c0 xs a2 c2 a5 c5 ts W) (hb : Below W.heap.size W W') : Kp cf tc base L w W5 gb a0 c0 xs a2 c2 a5 c5 ts W' := h.turn (S := fun _ => False) (turn_below hb) (fun _ s => absurd s id)
end
end Go.Proofs.YtngdgogjlpjjpadGreat
