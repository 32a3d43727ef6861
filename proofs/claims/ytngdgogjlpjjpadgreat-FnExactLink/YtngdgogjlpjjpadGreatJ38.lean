import Derived.Test.YtngdgogjlpjjpadGreatJ37
namespace Go.Proofs.YtngdgogjlpjjpadGreat
open Go.RowKit
set_option linter.unusedVariables false
set_option linter.unusedSimpArgs false
set_option maxRecDepth 100000

theorem rnd_rnd (x : Int) : rnd (rnd x) = rnd x := by unfold rnd; omega
theorem rnd_whole {x : Int} (h : x % 32 = 0) : rnd x = x := by unfold rnd; omega
def alF (x : Int) : Array Value := #[.int .i64 x, .func (.func 147) #[] #[]]
def alR (x : Int) : Array Value := #[.int .i64 x, .func (.func 148) #[] #[]]
/-- THE BOXES OF layOut: the configuration, the answer, the allocators, the layout -/
structure Lo (w W : World) (s c k d fx rx : Int) (cs : Array Value) : Prop where
  be : Below w.heap.size w W
  k0 : Blk W w.heap.size #[.int .i64 s, .int .i64 c, .int .i64 k, .int .i64 d] 25
  k1 : Blk W (w.heap.size + 1) zL 32
  k2 : Blk W (w.heap.size + 2) (alF fx) 188
  k3 : Blk W (w.heap.size + 3) (alR rx) 190
  k4 : Blk W (w.heap.size + 4) cs 32
theorem Lo.sz {w W : World} {s c k d fx rx : Int} {cs : Array Value} (h : Lo w W s c k d fx rx cs) : w.heap.size + 5 ≤ W.heap.size := h.k4.lt
theorem Lo.below {w W W' : World} {s c k d fx rx : Int} {cs : Array Value} (h : Lo w W s c k d fx rx cs) (hb : Below W.heap.size W W') : Lo w W' s c k d fx rx cs := ⟨h.be.trans (hb.mono h.be.size), h.k0.below hb, h.k1.below hb, h.k2.below hb, h.k3.below hb, h.k4.below hb⟩
theorem Lo.drew {w W : World} {s c k d fx rx : Int} {cs : Array Value} (h : Lo w W s c k d fx rx cs) : Lo w W.drew s c k d fx rx cs := ⟨h.be.drew, h.k0, h.k1, h.k2, h.k3, h.k4⟩
theorem Lo.set {w W : World} {s c k d fx rx : Int} {cs : Array Value} (h : Lo w W s c k d fx rx cs) (i : Nat) (v : Value) : Lo w (W.setCell ⟨w.heap.size + 4, i, none⟩ v) s c k d fx rx (cs.setIfInBounds i v) := by
  have t := turn_set W (w.heap.size + 4) i v
  exact ⟨below_turn h.be t (fun k hk => by omega) h.be.size, turn_blk t h.k0 (by omega), turn_blk t h.k1 (by omega), turn_blk t h.k2 (by omega), turn_blk t h.k3 (by omega), h.k4.set i v⟩
theorem Lo.other {w W : World} {s c k d fx rx : Int} {cs : Array Value} (h : Lo w W s c k d fx rx cs) {g : Nat} (hg : w.heap.size + 5 ≤ g) (i : Nat) (v : Value) : Lo w (W.setCell ⟨g, i, none⟩ v) s c k d fx rx cs := by
  have t := turn_set W g i v
  exact ⟨below_turn h.be t (fun k hk => by omega) h.be.size, turn_blk t h.k0 (by omega), turn_blk t h.k1 (by omega), turn_blk t h.k2 (by omega), turn_blk t h.k3 (by omega), turn_blk t h.k4 (by omega)⟩
theorem Lo.callF {w W W' : World} {s c k d fx rx fx' : Int} {cs : Array Value} (h : Lo w W s c k d fx rx cs) (t : Turn (fun j => j = w.heap.size + 2) W W') (k2 : Blk W' (w.heap.size + 2) (alF fx') 188) : Lo w W' s c k d fx' rx cs :=
  ⟨below_turn h.be t (fun k hk => by omega) h.be.size, turn_blk t h.k0 (by omega), turn_blk t h.k1 (by omega), k2, turn_blk t h.k3 (by omega), turn_blk t h.k4 (by omega)⟩
theorem Lo.callR {w W W' : World} {s c k d fx rx rx' : Int} {cs : Array Value} (h : Lo w W s c k d fx rx cs) (t : Turn (fun j => j = w.heap.size + 3) W W') (k3 : Blk W' (w.heap.size + 3) (alR rx') 190) : Lo w W' s c k d fx rx' cs :=
  ⟨below_turn h.be t (fun k hk => by omega) h.be.size, turn_blk t h.k0 (by omega), turn_blk t h.k1 (by omega), turn_blk t h.k2 (by omega), k3, turn_blk t h.k4 (by omega)⟩
theorem Lo.grown {w W W' : World} {s c k d fx rx : Int} {cs : Array Value} {row : Option Nat} (h : Lo w W s c k d fx rx cs) (hg : W.grownBy W' row) (hr : ∀ j, row = some j → w.heap.size + 5 ≤ j) : Lo w W' s c k d fx rx cs := by
  have t : Turn (fun j => row = some j) W W' := ⟨hg.os, hg.tape, hg.output, hg.size, fun j hj hs => hg.block j hj (fun e => hs e.symm)⟩
  exact ⟨below_turn h.be t (fun j hj => by have := hr j hj; omega) h.be.size, turn_blk t h.k0 (fun e => by have := hr _ e; omega), turn_blk t h.k1 (fun e => by have := hr _ e; omega), turn_blk t h.k2 (fun e => by have := hr _ e; omega), turn_blk t h.k3 (fun e => by have := hr _ e; omega), turn_blk t h.k4 (fun e => by have := hr _ e; omega)⟩
theorem lo_new (w : World) (s c k d : Int) : Lo w (((((w.alloc (.cells #[.int .i64 s, .int .i64 c, .int .i64 k, .int .i64 d] 25)).alloc (.cells #[.slice none 0 0, .int .i64 0, .slice none 0 0, .int .i64 0, .int .i64 0, .slice none 0 0] 32)).alloc (.cells #[.int .i64 0, .func (.func 147) #[] #[]] 188)).alloc (.cells #[.int .i64 65536, .func (.func 148) #[] #[]] 190)).alloc (.cells #[.slice none 0 0, .int .i64 0, .slice none 0 0, .int .i64 0, .int .i64 0, .slice none 0 0] 32)) s c k d 0 65536 zL := by
  have k0 := Blk.new w #[.int .i64 s, .int .i64 c, .int .i64 k, .int .i64 d] 25
  have b0 : Below w.heap.size w (w.alloc (.cells #[.int .i64 s, .int .i64 c, .int .i64 k, .int .i64 d] 25)) := (Below.refl _ _).alloc (Nat.le_refl _) _
  have s0 : (w.alloc (.cells #[.int .i64 s, .int .i64 c, .int .i64 k, .int .i64 d] 25)).heap.size = w.heap.size + 1 := by simp
  generalize w.alloc (.cells #[.int .i64 s, .int .i64 c, .int .i64 k, .int .i64 d] 25) = W0 at *
  have k1 := Blk.new W0 #[.slice none 0 0, .int .i64 0, .slice none 0 0, .int .i64 0, .int .i64 0, .slice none 0 0] 32
  have b1 : Below W0.heap.size W0 (W0.alloc (.cells #[.slice none 0 0, .int .i64 0, .slice none 0 0, .int .i64 0, .int .i64 0, .slice none 0 0] 32)) := (Below.refl _ _).alloc (Nat.le_refl _) _
  have s1 : (W0.alloc (.cells #[.slice none 0 0, .int .i64 0, .slice none 0 0, .int .i64 0, .int .i64 0, .slice none 0 0] 32)).heap.size = w.heap.size + 2 := by simp [s0]
  rw [s0] at k1
  generalize W0.alloc (.cells #[.slice none 0 0, .int .i64 0, .slice none 0 0, .int .i64 0, .int .i64 0, .slice none 0 0] 32) = W1 at *
  have k2 := Blk.new W1 #[.int .i64 0, .func (.func 147) #[] #[]] 188
  have b2 : Below W1.heap.size W1 (W1.alloc (.cells #[.int .i64 0, .func (.func 147) #[] #[]] 188)) := (Below.refl _ _).alloc (Nat.le_refl _) _
  have s2 : (W1.alloc (.cells #[.int .i64 0, .func (.func 147) #[] #[]] 188)).heap.size = w.heap.size + 3 := by simp [s1]
  rw [s1] at k2
  generalize W1.alloc (.cells #[.int .i64 0, .func (.func 147) #[] #[]] 188) = W2 at *
  have k3 := Blk.new W2 #[.int .i64 65536, .func (.func 148) #[] #[]] 190
  have b3 : Below W2.heap.size W2 (W2.alloc (.cells #[.int .i64 65536, .func (.func 148) #[] #[]] 190)) := (Below.refl _ _).alloc (Nat.le_refl _) _
  have s3 : (W2.alloc (.cells #[.int .i64 65536, .func (.func 148) #[] #[]] 190)).heap.size = w.heap.size + 4 := by simp [s2]
  rw [s2] at k3
  generalize W2.alloc (.cells #[.int .i64 65536, .func (.func 148) #[] #[]] 190) = W3 at *
  have k4 := Blk.new W3 #[.slice none 0 0, .int .i64 0, .slice none 0 0, .int .i64 0, .int .i64 0, .slice none 0 0] 32
  have b4 : Below W3.heap.size W3 (W3.alloc (.cells #[.slice none 0 0, .int .i64 0, .slice none 0 0, .int .i64 0, .int .i64 0, .slice none 0 0] 32)) := (Below.refl _ _).alloc (Nat.le_refl _) _
  rw [s3] at k4
  have c34 := b4
  have c24 := b3.trans (c34.mono (by omega))
  have c14 := b2.trans (c24.mono (by omega))
  have c04 := b1.trans (c14.mono (by omega))
  exact ⟨b0.trans (c04.mono (by omega)), k0.below c04, k1.below c14, k2.below c24, k3.below c34, k4⟩
end Go.Proofs.YtngdgogjlpjjpadGreat
