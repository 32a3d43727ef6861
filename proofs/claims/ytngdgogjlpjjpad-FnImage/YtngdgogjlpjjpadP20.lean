import Derived.Test.YtngdgogjlpjjpadP19
namespace Go.Proofs.Ytngdgogjlpjjpad
open Go.RowKit
set_option linter.unusedVariables false
set_option linter.unusedSimpArgs false
set_option maxRecDepth 100000
theorem RdI.lts {W : World} {g b n cap : Nat} {zs r : List Int} (h : RdI W g b n cap zs r) : g < W.heap.size ∧ (n ≠ 0 → b < W.heap.size) := by
  refine ⟨by obtain ⟨_, _, _, _, hb, _⟩ := h.pos; exact hb.lt, fun hn => ?_⟩
  obtain ⟨_, _, _, h4, _⟩ := h.bs
  obtain ⟨b', off, e, hc⟩ := h4 hn
  simp at e
  have := World.block_lt_of_cell? W _ (hc 0 (by omega))
  simpa [e.1] using this
theorem RdI.other {W : World} {g b n cap k i : Nat} {zs r : List Int} {v : Value} (h : RdI W g b n cap zs r) (hk : k ≠ g) (hb : n ≠ 0 → b ≠ k) : RdI (W.setCell ⟨k, i, none⟩ v) g b n cap zs r := by
  obtain ⟨k', a, p1, p2, p3, p4⟩ := h.pos
  refine ⟨⟨k', a, p1, p2, p3.other _ _ (fun e => hk e.symm), p4⟩, ?_, h.ne, h.small⟩
  by_cases hn : n = 0
  · subst hn
    obtain ⟨b1, b2, b3, b4, b5⟩ := h.bs
    exact ⟨b1, b2, b3, fun e => absurd rfl e, b5⟩
  · exact turn_bs (turn_set W k i v) h.bs (fun j hj b' off e => by simp at e; rw [hj, ← e.1]; exact hb hn)
structure Es (w W : World) (g b n cap : Nat) (zs r : List Int) (t : TypeId) (z cs : Array Value) : Prop where
  rd : RdI W g b n cap zs r
  tu : Turn (fun j => j = g) w W
  k1 : Blk W w.heap.size z t
  k2 : Blk W (w.heap.size + 1) cs t
  lo : g < w.heap.size ∧ (n ≠ 0 → b < w.heap.size)
theorem Es.call {w W W' : World} {g b n cap : Nat} {zs r r' : List Int} {t : TypeId} {z cs : Array Value} (h : Es w W g b n cap zs r t z cs) (T : Turn (fun j => j = g) W W') (R : RdI W' g b n cap zs r') : Es w W' g b n cap zs r' t z cs :=
  ⟨R, h.tu.trans T, turn_blk T h.k1 (by have := h.lo.1; omega), turn_blk T h.k2 (by have := h.lo.1; omega), h.lo⟩
theorem Es.set {w W : World} {g b n cap : Nat} {zs r : List Int} {t : TypeId} {z cs : Array Value} (h : Es w W g b n cap zs r t z cs) (i : Nat) (v : Value) : Es w (W.setCell ⟨w.heap.size + 1, i, none⟩ v) g b n cap zs r t z (cs.setIfInBounds i v) :=
  ⟨h.rd.other (by have := h.lo.1; omega) (fun hn => by have := h.lo.2 hn; omega), turn_new' h.tu (by omega) _ _, h.k1.other _ _ (by show w.heap.size ≠ w.heap.size + 1; omega), h.k2.set i v, h.lo⟩
theorem Es.new {w : World} {g b n cap : Nat} {zs r : List Int} {t : TypeId} {z : Array Value} (h : RdI w g b n cap zs r) : Es w ((w.alloc (.cells z t)).alloc (.cells z t)) g b n cap zs r t z z := by
  have b1 : Below w.heap.size w (w.alloc (.cells z t)) := (Below.refl _ _).alloc (Nat.le_refl _) _
  have b2 : Below (w.alloc (.cells z t)).heap.size (w.alloc (.cells z t)) ((w.alloc (.cells z t)).alloc (.cells z t)) := (Below.refl _ _).alloc (Nat.le_refl _) _
  have e : (w.alloc (.cells z t)).heap.size = w.heap.size + 1 := by simp
  refine ⟨(h.below b1).below b2, turn_below (b1.trans (b2.mono b1.size)), (Blk.new w z t).below b2, ?_, h.lts⟩
  have := Blk.new (w.alloc (.cells z t)) z t
  rwa [e] at this
def isX (x : Ex) (v : Value) (w : World) : Prop := v = .agg #[.string x.1, .int .i64 x.2.1, .int .i64 x.2.2]
theorem pN_range {s : Nat} {zs r : List Int} {x : Int} (hz : ∀ z ∈ zs, 0 ≤ z ∧ z ≤ 255) (hs : s ≤ 4) (h : pN s zs = some (x, r)) : 0 ≤ x ∧ x ≤ 4294967295 ∧ (s ≤ 2 → x ≤ 65535) := by
  unfold pN at h
  split at h
  · rename_i hl
    simp at h
    rw [← h.1]
    have hr : ∀ z ∈ zs.take s, 0 ≤ z ∧ z ≤ 255 := fun z hz' => hz z (List.mem_of_mem_take hz')
    have := low_small _ hr (by rw [List.length_take]; omega)
    refine ⟨this.1, this.2, fun h2 => ?_⟩
    have h3 := (low_range _ hr).2
    have h4 : (zs.take s).length ≤ 2 := by rw [List.length_take]; omega
    have h5 : (256:Int)^(zs.take s).length ≤ 65536 := by
      have : (zs.take s).length = 0 ∨ (zs.take s).length = 1 ∨ (zs.take s).length = 2 := by omega
      rcases this with e | e | e <;> rw [e] <;> decide
    omega
  · simp at h
set_option maxHeartbeats 2000000 in
theorem export_rd (g b n cap : Nat) (zs r : List Int) (w : World) (h : RdI w g b n cap zs r) :
    Calls Try.prog 78 #[.pointer (some ⟨g, 0, none⟩)] w (RP w g b n cap zs isX (pX r)) := by
  have E0 := Es.new (t := 58) (z := #[.string ⟨#[]⟩, .int .i64 0, .int .i64 0]) h
  clear h
  have HN := hide (fun w r h => number_rd g b n cap zs r 1 w h (Or.inl rfl))
  have HX : Hid (pX r = (pT r).bind fun x => (pN 1 x.2).bind fun y => (pN 2 y.2).map fun z => ((x.1, y.1 - 1, z.1), z.2)) := rfl
  go_enter Try.func78, Try.ntmps78
  go_wp2_with fail
  refine (text_rd g b n cap zs r _ E0.rd).mono ?_
  intro e w1 H
  cases hp : pT r with
  | none =>
    obtain ⟨T1, rfl⟩ := H.none hp
    have E1 := E0.tu.trans T1
    unfold panicE
    go_wp2
    exact ⟨rfl, RP.ofNone (by rw [HX.out, hp]; rfl) E1⟩
  | some x =>
    obtain ⟨x, r1⟩ := x
    obtain ⟨T1, v, rfl, hv, R1⟩ := H.some hp
    obtain rfl : v = .string x := hv
    have E1 := (E0.call T1 R1).set 0 (.string x)
    have q0 := (E0.call T1 R1).k2.cell 0
    have f0 := (E0.call T1 R1).k2.frozen 0
    simp at q0
    clear E0 H T1 R1
    go_wp2_with fail
    refine (HN.out _ r1 E1.rd).mono ?_
    intro e w2 H
    cases hq : pN 1 r1 with
    | none =>
      obtain ⟨T2, rfl⟩ := H.none hq
      have E2 := E1.tu.trans T2
      unfold panicE
      go_wp2
      exact ⟨rfl, RP.ofNone (by rw [HX.out, hp]; show (pN 1 r1).bind _ = none; rw [hq]; rfl) E2⟩
    | some y =>
      obtain ⟨y, r2⟩ := y
      obtain ⟨T2, v, rfl, hv, R2⟩ := H.some hq
      obtain rfl : v = .int .i64 y := hv
      have hy := pN_range E1.rd.range (by omega) hq
      have E2 := (E1.call T2 R2).set 1 (.int .i64 (y - 1))
      have q1 := (E1.call T2 R2).k2.cell 1
      have f1 := (E1.call T2 R2).k2.frozen 1
      simp at q1
      clear E1 H T2 R2 q0 f0
      obtain ⟨hy0, hy1, _⟩ := hy
      go_wp2_with fail
      refine (count_rd g b n cap zs r2 _ E2.rd).mono ?_
      intro e w3 H
      cases hs : pN 2 r2 with
      | none =>
        obtain ⟨T3, rfl⟩ := H.none hs
        have E3 := E2.tu.trans T3
        unfold panicE
        go_wp2
        exact ⟨rfl, RP.ofNone (by rw [HX.out, hp]; show (pN 1 r1).bind _ = none; rw [hq]; show (pN 2 r2).map _ = none; rw [hs]; rfl) E3⟩
      | some z =>
        obtain ⟨z, r3⟩ := z
        obtain ⟨T3, v, rfl, hv, R3⟩ := H.some hs
        obtain rfl : v = .int .i64 z := hv
        have E2' := E2.call T3 R3
        have E3 := E2'.set 2 (.int .i64 z)
        have q2 := E2'.k2.cell 2
        have f2 := E2'.k2.frozen 2
        have u0 := E3.k2.cell 0
        have u1 := E3.k2.cell 1
        have u2 := E3.k2.cell 2
        have s0 := E3.k1.cell 0
        have s1 := E3.k1.cell 1
        have s2 := E3.k1.cell 2
        have sf0 := E3.k1.frozen 0
        have sf1 := E3.k1.frozen 1
        have sf2 := E3.k1.frozen 2
        simp at q2 u0 u1 u2 s0 s1 s2
        have HE := hide E3
        clear E2 E2' E3 H T3 R3 q1 f1
        go_wp2
        obtain ⟨lo1, lo2⟩ := HE.out.lo
        have F1 := HE.out.rd.other (k := w.heap.size) (i := 0) (v := .string x) (by omega) (fun hn => by have := lo2 hn; omega)
        have F2 := F1.other (k := w.heap.size) (i := 1) (v := .int .i64 (y - 1)) (by omega) (fun hn => by have := lo2 hn; omega)
        have F3 := F2.other (k := w.heap.size) (i := 2) (v := .int .i64 z) (by omega) (fun hn => by have := lo2 hn; omega)
        have T3 := turn_new' (turn_new' (turn_new' HE.out.tu (Nat.le_refl _) 0 (.string x)) (Nat.le_refl _) 1 (.int .i64 (y - 1))) (Nat.le_refl _) 2 (.int .i64 z)
        have k3 := ((HE.out.k1.set 0 (.string x)).set 1 (.int .i64 (y - 1))).set 2 (.int .i64 z)
        simp at k3
        obtain ⟨t0, t1, t2, _⟩ := k3.three
        refine bodyPost_ret_by (v := .agg #[.string x, .int .i64 (y - 1), .int .i64 z]) ?_ rfl (RP.ofSome (x := (x, y - 1, z)) (r := r3) (by rw [HX.out, hp]; show (pN 1 r1).bind _ = _; rw [hq]; show (pN 2 r2).map _ = _; rw [hs]; rfl) T3 rfl F3)
        simp only [results, Try.results78]
        simp [go_sem, t0, t1, t2]
end Go.Proofs.Ytngdgogjlpjjpad
