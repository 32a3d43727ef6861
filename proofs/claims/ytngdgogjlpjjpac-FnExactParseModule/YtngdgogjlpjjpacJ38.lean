import Derived.Test.YtngdgogjlpjjpacJ37
import Derived.Deep.AppendLies
namespace Go.Proofs.Ytngdgogjlpjjpac
open Go.RowKit
set_option linter.unusedVariables false
set_option linter.unusedSimpArgs false
set_option maxRecDepth 100000

/-- the state at which the reading begins -/
theorem ss_new {w W0 : World} {b n cap : Nat} {zs : List Int} (h : BS w (some ⟨b, 0, none⟩) n cap zs) (hn : n ≤ 1048576) (hb : b < w.heap.size) (h2 : 2 ≤ n) (B0 : Below w.heap.size w W0) (K0 : Blk W0 w.heap.size z8 56) (K1 : Blk W0 (w.heap.size + 1) z8 56) (hs : W0.heap.size = w.heap.size + 2) :
    Ss w ((W0.alloc (.cells #[.slice (some ⟨b, 0, none⟩) n cap, .int .i64 2, .bool false] 120)).alloc (.cells #[.string ⟨#[]⟩, .slice none 0 0, .slice none 0 0, .slice none 0 0, .int .i64 0, .slice none 0 0, .slice none 0 0, .slice none 0 0] 56)) b n cap zs (some (zs.drop 2)) z8 := by
  have b1 : Below W0.heap.size W0 (W0.alloc (.cells #[.slice (some ⟨b, 0, none⟩) n cap, .int .i64 2, .bool false] 120)) := (Below.refl _ _).alloc (Nat.le_refl _) _
  have k1 := Blk.new W0 #[.slice (some ⟨b, 0, none⟩) n cap, .int .i64 2, .bool false] 120
  have hs1 : (W0.alloc (.cells #[.slice (some ⟨b, 0, none⟩) n cap, .int .i64 2, .bool false] 120)).heap.size = w.heap.size + 3 := by simp [hs]
  rw [hs] at k1
  generalize W0.alloc (.cells #[.slice (some ⟨b, 0, none⟩) n cap, .int .i64 2, .bool false] 120) = W1 at *
  have b2 : Below W1.heap.size W1 (W1.alloc (.cells #[.string ⟨#[]⟩, .slice none 0 0, .slice none 0 0, .slice none 0 0, .int .i64 0, .slice none 0 0, .slice none 0 0, .slice none 0 0] 56)) := (Below.refl _ _).alloc (Nat.le_refl _) _
  have k2 := Blk.new W1 #[.string ⟨#[]⟩, .slice none 0 0, .slice none 0 0, .slice none 0 0, .int .i64 0, .slice none 0 0, .slice none 0 0, .slice none 0 0] 56
  rw [hs1] at k2
  have bb := b1.trans (b2.mono (by omega))
  have B2 := B0.trans (bb.mono B0.size)
  exact ⟨⟨⟨2, h2, k1.below b2, fun r e => by simp at e; exact e.symm⟩, h.below B2, by omega, hn⟩, B2, K0.below bb, K1.below bb, k2, hb⟩

theorem Ss.drew {w W : World} {b n cap : Nat} {zs : List Int} {st : Option (List Int)} {cs : Array Value} (h : Ss w W b n cap zs st cs) : Ss w W.drew b n cap zs st cs := ⟨h.rd.drew, h.be.drew, h.k0, h.k1, h.k2, h.lo⟩
theorem Ss.two {w W : World} {b n cap : Nat} {zs : List Int} {st : Option (List Int)} {cs : Array Value} (h : Ss w W b n cap zs st cs) (j : Nat) (v : Value) (hj : cs[j]? = some v) : W.cell? ⟨w.heap.size + 3, j, none⟩ = some v ∧ W.frozen? ⟨w.heap.size + 3, j, none⟩ = false := ⟨(h.k2.cell j).trans hj, h.k2.frozen j⟩
theorem Ss.short {w W : World} {b n cap : Nat} {zs : List Int} {st : Option (List Int)} {cs : Array Value} (h : Ss w W b n cap zs st cs) : W.cell? ⟨w.heap.size + 2, 2, none⟩ = some (.bool st.isNone) := by
  obtain ⟨k, _, hb, _⟩ := h.rd.pos
  simpa using hb.cell 2
end Go.Proofs.Ytngdgogjlpjjpac

namespace Go.Proofs.Ytngdgogjlpjjpac
open Go.RowKit
set_option linter.unusedVariables false
set_option linter.unusedSimpArgs false
set_option maxRecDepth 100000

theorem set_same' {cs : Array Value} {i : Nat} {v : Value} (h : cs[i]? = some v) : cs.setIfInBounds i v = cs := by
  apply Array.ext'
  rw [Array.toList_setIfInBounds]
  apply List.ext_getElem?
  intro j
  rw [List.getElem?_set]
  by_cases e : i = j
  · subst e
    obtain ⟨hl, hv⟩ := Array.getElem?_eq_some_iff.1 h
    simp [hl, ← hv]
  · simp [e]

/-- where nothing is left, nothing more is read -/
theorem lf_dead {α : Type} (p : List Int → Option (α × List Int)) (x : α) : Lf p none x none := ⟨fun _ => rfl, fun _ h => (by cases h), fun _ _ _ h => (by cases h)⟩
theorem lf_map {α β : Type} {p : List Int → Option (α × List Int)} {s1 s2 : Option (List Int)} {x : α} (f : α → β) (h : Lf p s1 x s2) : Lf (fun zs => (p zs).map fun u => (f u.1, u.2)) s1 (f x) s2 := by
  refine ⟨h.n, fun zs e hp => h.f zs e ?_, fun zs y r e hp => ?_⟩
  · cases e' : p zs with
    | none => rfl
    | some v => simp only [e'] at hp; simp at hp
  · cases e' : p zs with
    | none => simp only [e'] at hp; simp at hp
    | some v =>
      simp only [e'] at hp
      simp at hp
      obtain ⟨a, b⟩ := h.s zs v.1 v.2 e e'
      exact ⟨by rw [a]; exact hp.1, by rw [b, hp.2]⟩
/-- AN EXPORT -/
theorem lf_X {s0 s1 s2 s3 : Option (List Int)} {nm : ByteArray} {x y : Int} (L1 : Lf pT s0 nm s1) (L2 : Lf (pN 1) s1 x s2) (L3 : Lf (pN 2) s2 y s3) : Lf pX s0 (nm, x - 1, y) s3 :=
  L1.bindM (q := fun a r => (pN 1 r).bind fun y => (pN 2 y.2).map fun z => ((a, y.1 - 1, z.1), z.2)) (L2.bindM (q := fun b r => (pN 2 r).map fun z => ((nm, b - 1, z.1), z.2)) (lf_map (fun z => (nm, x - 1, z)) L3))
theorem lf_alt {α : Type} {p : List Int → Option (α × List Int)} {zs : List Int} {x : α} {st : Option (List Int)} (h : Lf p (some zs) x st) : (p zs = none ∧ st = none) ∨ ∃ r, p zs = some (x, r) ∧ st = some r := by
  cases e : p zs with
  | none => exact .inl ⟨rfl, h.f zs rfl e⟩
  | some y =>
    obtain ⟨y, r⟩ := y
    obtain ⟨rfl, hr⟩ := h.s zs y r rfl e
    exact .inr ⟨r, rfl, hr⟩
theorem lf_of {α : Type} {p : List Int → Option (α × List Int)} {s0 st : Option (List Int)} {x : α} (hn : s0 = none → st = none) (h : ∀ zs, s0 = some zs → (p zs = none ∧ st = none) ∨ ∃ r, p zs = some (x, r) ∧ st = some r) : Lf p s0 x st := by
  refine ⟨hn, fun zs e hp => ?_, fun zs y r e hp => ?_⟩
  · rcases h zs e with ⟨_, h2⟩ | ⟨r, h1, h2⟩
    · exact h2
    · rw [hp] at h1; cases h1
  · rcases h zs e with ⟨h1, h2⟩ | ⟨r', h1, h2⟩
    · rw [hp] at h1; cases h1
    · rw [hp] at h1; cases h1; exact ⟨rfl, h2⟩
/-- THE MODULE -/
theorem lf_mod {s0 s1 s2 s3 s4 s5 s6 s7 s8 s9 s10 s11 s12 s13 : Option (List Int)} {nm : ByteArray} {tz : List Int} {m : Int} {bl : List (List Int)} {nd : Int} {dz : List Int} {bss mr : Int} {rz : List Int} {mi : Int} {ss : List ByteArray} {me : Int} {es : List Ex}
    (L1 : Lf pT s0 nm s1) (L2 : Lf pL s1 tz s2) (L3 : Lf (pN 1) s2 m s3) (L4 : Lf (pM pL m.toNat) s3 bl s4) (L5 : Lf (pN 2) s4 nd s5) (L6 : Lf (pB nd.toNat) s5 dz s6) (L7 : Lf (pN 2) s6 bss s7) (L8 : Lf (pN 1) s7 mr s8) (L9 : Lf (pM (pN 2) mr.toNat) s8 rz s9) (L10 : Lf (pN 1) s9 mi s10) (L11 : Lf (pM pT mi.toNat) s10 ss s11) (L12 : Lf (pN 1) s11 me s12) (L13 : Lf (pM pX me.toNat) s12 es s13) :
    Lf pMod s0 ⟨nm, tz, bl, dz, bss, rz, ss, es⟩ s13 := by
  refine lf_of (fun h => L13.n (L12.n (L11.n (L10.n (L9.n (L8.n (L7.n (L6.n (L5.n (L4.n (L3.n (L2.n (L1.n (h)))))))))))))) fun z0 hz => ?_
  subst hz
  unfold pMod
  rcases lf_alt L1 with ⟨e, rfl⟩ | ⟨z1, e, rfl⟩
  · exact .inl ⟨by rw [e]; rfl, L13.n (L12.n (L11.n (L10.n (L9.n (L8.n (L7.n (L6.n (L5.n (L4.n (L3.n (L2.n (rfl))))))))))))⟩
  rw [e]
  clear e
  simp only [Option.bind_some]
  rcases lf_alt L2 with ⟨e, rfl⟩ | ⟨z2, e, rfl⟩
  · exact .inl ⟨by rw [e]; rfl, L13.n (L12.n (L11.n (L10.n (L9.n (L8.n (L7.n (L6.n (L5.n (L4.n (L3.n (rfl)))))))))))⟩
  rw [e]
  clear e
  simp only [Option.bind_some]
  rcases lf_alt L3 with ⟨e, rfl⟩ | ⟨z3, e, rfl⟩
  · exact .inl ⟨by rw [e]; rfl, L13.n (L12.n (L11.n (L10.n (L9.n (L8.n (L7.n (L6.n (L5.n (L4.n (rfl))))))))))⟩
  rw [e]
  clear e
  simp only [Option.bind_some]
  rcases lf_alt L4 with ⟨e, rfl⟩ | ⟨z4, e, rfl⟩
  · exact .inl ⟨by rw [e]; rfl, L13.n (L12.n (L11.n (L10.n (L9.n (L8.n (L7.n (L6.n (L5.n (rfl)))))))))⟩
  rw [e]
  clear e
  simp only [Option.bind_some]
  rcases lf_alt L5 with ⟨e, rfl⟩ | ⟨z5, e, rfl⟩
  · exact .inl ⟨by rw [e]; rfl, L13.n (L12.n (L11.n (L10.n (L9.n (L8.n (L7.n (L6.n (rfl))))))))⟩
  rw [e]
  clear e
  simp only [Option.bind_some]
  rcases lf_alt L6 with ⟨e, rfl⟩ | ⟨z6, e, rfl⟩
  · exact .inl ⟨by rw [e]; rfl, L13.n (L12.n (L11.n (L10.n (L9.n (L8.n (L7.n (rfl)))))))⟩
  rw [e]
  clear e
  simp only [Option.bind_some]
  rcases lf_alt L7 with ⟨e, rfl⟩ | ⟨z7, e, rfl⟩
  · exact .inl ⟨by rw [e]; rfl, L13.n (L12.n (L11.n (L10.n (L9.n (L8.n (rfl))))))⟩
  rw [e]
  clear e
  simp only [Option.bind_some]
  rcases lf_alt L8 with ⟨e, rfl⟩ | ⟨z8, e, rfl⟩
  · exact .inl ⟨by rw [e]; rfl, L13.n (L12.n (L11.n (L10.n (L9.n (rfl)))))⟩
  rw [e]
  clear e
  simp only [Option.bind_some]
  rcases lf_alt L9 with ⟨e, rfl⟩ | ⟨z9, e, rfl⟩
  · exact .inl ⟨by rw [e]; rfl, L13.n (L12.n (L11.n (L10.n (rfl))))⟩
  rw [e]
  clear e
  simp only [Option.bind_some]
  rcases lf_alt L10 with ⟨e, rfl⟩ | ⟨z10, e, rfl⟩
  · exact .inl ⟨by rw [e]; rfl, L13.n (L12.n (L11.n (rfl)))⟩
  rw [e]
  clear e
  simp only [Option.bind_some]
  rcases lf_alt L11 with ⟨e, rfl⟩ | ⟨z11, e, rfl⟩
  · exact .inl ⟨by rw [e]; rfl, L13.n (L12.n (rfl))⟩
  rw [e]
  clear e
  simp only [Option.bind_some]
  rcases lf_alt L12 with ⟨e, rfl⟩ | ⟨z12, e, rfl⟩
  · exact .inl ⟨by rw [e]; rfl, L13.n (rfl)⟩
  rw [e]
  clear e
  simp only [Option.bind_some]
  rcases lf_alt L13 with ⟨e, rfl⟩ | ⟨z13, e, rfl⟩
  · exact .inl ⟨by rw [e]; rfl, rfl⟩
  rw [e]
  clear e
  exact .inr ⟨z13, rfl, rfl⟩
/-- what ParseModule gives, once the first bytes are right -/
def prs2 (zs : List Int) : Int × Option PMod := match pMod (zs.drop 2) with
  | none => (2, none)
  | some x => if x.2 ≠ [] then (3, none) else if mdoP x.1 ≠ 0 then (10 + mdoP x.1, none) else (0, some x.1)
theorem prs2_none {zs : List Int} {P : PMod} (h : Lf pMod (some (zs.drop 2)) P none) : prs2 zs = (2, none) := by
  unfold prs2
  cases e : pMod (zs.drop 2) with
  | none => rfl
  | some x => have := (h.s _ x.1 x.2 rfl e).2; cases this
theorem prs2_some {zs r : List Int} {P : PMod} (h : Lf pMod (some (zs.drop 2)) P (some r)) : pMod (zs.drop 2) = some (P, r) ∧ prs2 zs = if r ≠ [] then (3, none) else if mdoP P ≠ 0 then (10 + mdoP P, none) else (0, some P) := by
  cases e : pMod (zs.drop 2) with
  | none => have := h.f _ rfl e; cases this
  | some x =>
    obtain ⟨h1, h2⟩ := h.s _ x.1 x.2 rfl e
    simp at h2
    subst h1 h2
    refine ⟨rfl, ?_⟩
    unfold prs2
    rw [e]
/-- what stays while ParseModule reads on -/
def StS (w : World) (A : World → Prop) : Prop := ∀ W W', Turn (Sg w) W W' → A W → A W'
theorem StS.and {w : World} {A B : World → Prop} (a : StS w A) (b : StS w B) : StS w (fun W => A W ∧ B W) := fun W W' t h => ⟨a W W' t h.1, b W W' t h.2⟩
theorem sts_og {α : Type} {t : TypeId} {sz : Nat} {f : α → List Value} {w : World} {base : Nat} {v : Value} {xs : List α} (hb : w.heap.size + 4 ≤ base) : StS w (fun W => OG t sz f W base v xs) := fun W W' t h => h.turn t (fun k hk => by unfold Sg at hk; omega)
theorem sts_obk {w : World} {base : Nat} {v : Value} {bl : List Bk} (hb : w.heap.size + 4 ≤ base) : StS w (fun W => OBk W base v bl) := fun W W' t h => h.turn t (fun k hk => by unfold Sg at hk; omega)
theorem sts_ob {w : World} {base : Nat} {v : Value} {zs : List Int} (hb : w.heap.size + 4 ≤ base) : StS w (fun W => OB W base v zs) := fun W W' t h => turn_ob t h (fun k hk e => by have := (h.lt k hk).1; unfold Sg at e; omega)
theorem sts_p {w : World} {P : Prop} : StS w (fun _ => P) := fun _ _ _ h => h
theorem Sg.a {w : World} {W W' : World} (t : Turn (fun j => j = w.heap.size + 2) W W') : Turn (Sg w) W W' := t.mono (fun j hj => .inl hj)
theorem Sg.b {w W : World} (i : Nat) (v : Value) : Turn (Sg w) W (W.setCell ⟨w.heap.size + 3, i, none⟩ v) := (turn_set W (w.heap.size + 3) i v).mono (fun j hj => .inr hj)
/-- a number, read at the state -/
theorem Ss.num {w W : World} {b n cap : Nat} {zs : List Int} {st : Option (List Int)} {cs : Array Value} (h : Ss w W b n cap zs st cs) (s : Nat) (hs : s = 1 ∨ s = 2) :
    Calls Try.prog 95 #[.pointer (some ⟨w.heap.size + 2, 0, none⟩), .int .i64 s] W fun e w' => ∃ (x : Nat) (st' : Option (List Int)), e = .returned (.int .i64 (x : Int)) ∧ x ≤ 65535 ∧ (s = 1 → x ≤ 255) ∧ Lf (pN s) st (x : Int) st' ∧ Ss w w' b n cap zs st' cs ∧ Turn (Sg w) W w' := by
  refine (num_rd (w.heap.size + 2) b n cap zs st s W h.rd (by omega)).mono ?_
  rintro e w' ⟨rfl, R, T⟩
  have hx := oN_range h.rd s (by omega)
  have L := lf_N s st
  generalize oN s st = X at *
  obtain ⟨x, st'⟩ := X
  obtain ⟨m, rfl⟩ : ∃ m : Nat, x = (m : Int) := ⟨x.toNat, by have := hx.1; dsimp only at this; omega⟩
  exact ⟨m, st', rfl, by have := hx.2.2.1 (by omega); dsimp only at this; omega, fun e => by have := hx.2.2.2 e; dsimp only at this; omega, L, h.call T R, Sg.a T⟩
theorem Ss.num0 {w W : World} {b n cap : Nat} {zs : List Int} {cs : Array Value} (h : Ss w W b n cap zs none cs) (s : Nat) (hs : s = 1 ∨ s = 2) :
    Calls Try.prog 95 #[.pointer (some ⟨w.heap.size + 2, 0, none⟩), .int .i64 s] W fun e w' => e = .returned (.int .i64 0) ∧ Ss w w' b n cap zs none cs := by
  refine (num_rd (w.heap.size + 2) b n cap zs none s W h.rd (by omega)).mono ?_
  rintro e w' ⟨rfl, R, T⟩
  exact ⟨rfl, h.call T R⟩
theorem Ss.bytes {w W : World} {b n cap : Nat} {zs : List Int} {st : Option (List Int)} {cs : Array Value} (h : Ss w W b n cap zs st cs) (s : Nat) (hs : s ≤ 65535) :
    Calls Try.prog 96 #[.pointer (some ⟨w.heap.size + 2, 0, none⟩), .int .i64 s] W fun e w' => ∃ (x : List Int) (st' : Option (List Int)) (a : Option Addr) (c : Nat), e = .returned (.slice a x.length c) ∧ OB w' W.heap.size (.slice a x.length c) x ∧ Lf (pB s) st x st' ∧ Ss w w' b n cap zs st' cs ∧ Turn (Sg w) W w' := by
  refine (bytes_rd (w.heap.size + 2) b n cap zs st s W h.rd hs).mono ?_
  rintro e w' ⟨a, c, rfl, O, R, T⟩
  exact ⟨_, _, a, c, rfl, O, lf_B s st, h.call T R, Sg.a T⟩
theorem Ss.bytes0 {w W : World} {b n cap : Nat} {zs : List Int} {cs : Array Value} (h : Ss w W b n cap zs none cs) :
    Calls Try.prog 96 #[.pointer (some ⟨w.heap.size + 2, 0, none⟩), .int .i64 0] W fun e w' => ∃ (a : Option Addr) (c : Nat), e = .returned (.slice a 0 c) ∧ Ss w w' b n cap zs none cs := by
  refine (bytes_rd (w.heap.size + 2) b n cap zs none 0 W h.rd (by omega)).mono ?_
  rintro e w' ⟨a, c, rfl, O, R, T⟩
  exact ⟨a, c, rfl, h.call T R⟩
theorem Ss.text {w W : World} {b n cap : Nat} {zs : List Int} {st : Option (List Int)} {cs : Array Value} (h : Ss w W b n cap zs st cs) :
    Calls Try.prog 93 #[.pointer (some ⟨w.heap.size + 2, 0, none⟩)] W fun e w' => ∃ (x : ByteArray) (st' : Option (List Int)), e = .returned (.string x) ∧ Lf pT st x st' ∧ Ss w w' b n cap zs st' cs ∧ Turn (Sg w) W w' := by
  refine (text_rs (w.heap.size + 2) b n cap zs st W h.rd).mono ?_
  rintro e w' ⟨x, v, st', rfl, ⟨rfl, hx⟩, R, T, L⟩
  exact ⟨x, st', rfl, L, h.call T R, Sg.a T⟩
theorem Ss.words {w W : World} {b n cap : Nat} {zs : List Int} {st : Option (List Int)} {cs : Array Value} (h : Ss w W b n cap zs st cs) :
    Calls Try.prog 94 #[.pointer (some ⟨w.heap.size + 2, 0, none⟩)] W fun e w' => ∃ (x : List Int) (st' : Option (List Int)) (a : Option Addr) (c : Nat), e = .returned (.slice a x.length c) ∧ OG 3 1 clI w' W.heap.size (.slice a x.length c) x ∧ Lf pL st x st' ∧ Ss w w' b n cap zs st' cs ∧ Turn (Sg w) W w' := by
  refine (words_rs (w.heap.size + 2) b n cap zs st W h.rd).mono ?_
  rintro e w' ⟨x, v, st', rfl, ⟨⟨a, c, rfl⟩, o, hw, hx⟩, R, T, L⟩
  exact ⟨x, st', a, c, rfl, o, L, h.call T R, Sg.a T⟩
/-- a store into a newer block -/
theorem Ss.other {w W : World} {b n cap g : Nat} {zs : List Int} {st : Option (List Int)} {cs : Array Value} (h : Ss w W b n cap zs st cs) (i : Nat) (v : Value) (hg : w.heap.size + 4 ≤ g) : Ss w (W.setCell ⟨g, i, none⟩ v) b n cap zs st cs :=
  ⟨h.rd.turn (turn_set W g i v) (by omega) (by have := h.lo; omega), below_turn h.be (turn_set W g i v) (fun k hk => by omega) h.be.size, turn_blk (turn_set W g i v) h.k0 (by omega), turn_blk (turn_set W g i v) h.k1 (by omega), turn_blk (turn_set W g i v) h.k2 (by omega), h.lo⟩
/-- the module, laid into the answer's box -/
theorem mod_end {w W : World} {P : PMod} {a1 : Option Addr} {c1 : Nat} {a2 : Option Addr} {c2 : Nat} {bl : List Bk} {a3 : Option Addr} {c3 : Nat} {a5 : Option Addr} {c5 : Nat} {a6 : Option Addr} {c6 : Nat} {a7 : Option Addr} {c7 : Nat} (be : Below w.heap.size w W) (k0 : Blk W w.heap.size z8 56) (MO : ModO W (w.heap.size + 4) P a1 c1 a2 c2 bl a3 c3 a5 c5 a6 c6 a7 c7) (p : Int × Option PMod) (hp : p = (0, some P)) (tmps : Array Value) (h2 : tmps[2]? = some (.pointer (some ⟨w.heap.size, 0, none⟩))) (h3 : tmps[3]? = some (.int .i64 0)) :
    bodyPost Try.prog Try.f32 (PaPost w p) Exit.ret ⟨tmps, []⟩ (st8 W w.heap.size (.string P.nm) (.slice a1 P.tz.length c1) (.slice a2 bl.length c2) (.slice a3 P.dz.length c3) (.int .i64 P.bss) (.slice a5 P.rz.length c5) (.slice a6 P.ss.length c6) (.slice a7 P.es.length c7)) := by
  have t := turn_st8 W w.heap.size (.string P.nm) (.slice a1 P.tz.length c1) (.slice a2 bl.length c2) (.slice a3 P.dz.length c3) (.int .i64 P.bss) (.slice a5 P.rz.length c5) (.slice a6 P.ss.length c6) (.slice a7 P.es.length c7)
  have k := blk_st8 k0 rfl (.string P.nm) (.slice a1 P.tz.length c1) (.slice a2 bl.length c2) (.slice a3 P.dz.length c3) (.int .i64 P.bss) (.slice a5 P.rz.length c5) (.slice a6 P.ss.length c6) (.slice a7 P.es.length c7)
  obtain ⟨t0, t1, t2, t3, t4, t5, t6, t7⟩ := k.eight'
  refine bodyPost_ret_by (v := .tuple #[.agg (modV P a1 c1 a2 c2 bl a3 c3 a5 c5 a6 c6 a7 c7), .int .i64 0]) ?_ rfl ?_
  · simp [results, Try.results32, go_sem, h2, h3, t0, t1, t2, t3, t4, t5, t6, t7, modV]
  · subst hp
    exact ⟨below_turn be t (fun k hk => by omega) be.size, a1, c1, a2, c2, bl, a3, c3, a5, c5, a6, c6, a7, c7, rfl, (MO.turn t (fun k hk => by omega)).mono (by omega)⟩
end Go.Proofs.Ytngdgogjlpjjpac
