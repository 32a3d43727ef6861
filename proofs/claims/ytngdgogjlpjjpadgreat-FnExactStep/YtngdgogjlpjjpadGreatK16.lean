import Derived.Test.YtngdgogjlpjjpadGreatK15
import Derived.Test.YtngdgogjlpjjpadGreatK03
namespace Go.Proofs.YtngdgogjlpjjpadGreat
open Go.RowKit
set_option linter.unusedVariables false
set_option linter.unusedSimpArgs false
set_option maxRecDepth 100000

/-- WHAT fetch GIVES: the fault, or 0 and the word. -/
def fet (pc : Int) (n1 n2 n3 : Nat) (x1 x2 : List Int) (rs : List Rg) (rn : Nat) : Int :=
  if alw rs rn pc 4 3 = true then
    if (rd n1 n2 n3 x1 x2 pc 4).2 = 0 then if dOk (rd n1 n2 n3 x1 x2 pc 4).1 = true then 0 else 6
    else (rd n1 n2 n3 x1 x2 pc 4).2
  else 5
def fin (f x : Int) : Value := if f = 0 then .agg #[.int .i64 (x / 67108864), .int .i64 (x / 8388608 % 8), .int .i64 (x / 1048576 % 8), .int .i64 (x % 65536)] else .agg #[.int .i64 0, .int .i64 0, .int .i64 0, .int .i64 0]

set_option maxHeartbeats 1000000 in
theorem pfetch_any (g base : Nat) (pc : Int) (rg : List Int) (a1 a2 a3 : Option Addr) (n1 c1 n2 c2 n3 c3 : Nat) (x1 x2 x3 : List Int) (ra : Option Addr) (rn rc : Nat) (rs : List Rg) (w : World) (h : Pm w g base pc rg a1 a2 a3 n1 c1 n2 c2 n3 c3 x1 x2 x3 ra rn rc rs) :
    Calls Tryz.prog 170 #[.pointer (some ⟨g, 0, none⟩)] w fun e w' => e = .returned (.tuple #[fin (fet pc n1 n2 n3 x1 x2 rs rn) (rd n1 n2 n3 x1 x2 pc 4).1, .int .i64 (fet pc n1 n2 n3 x1 x2 rs rn)]) ∧ Below w.heap.size w w' := by
  have hB0 : Below w.heap.size w (w.alloc (.cells #[.int .i64 0, .int .i64 0, .int .i64 0, .int .i64 0] 124)) := (Below.refl _ _).alloc (Nat.le_refl _) _
  have kr := Blk.new w #[.int .i64 0, .int .i64 0, .int .i64 0, .int .i64 0] 124
  have h0 := h.below hB0
  obtain ⟨p0, p1⟩ := h.pr.pcw
  have hr := rd_range n1 n2 n3 x1 x2 pc 4 h.own.1.2 h.own.2.1.2
  obtain ⟨f, hf0⟩ : ∃ f, f = fet pc n1 n2 n3 x1 x2 rs rn := ⟨_, rfl⟩
  rw [← hf0]
  unfold fet at hf0
  have HA := hide (fun w h => iAllowed_any ra rn rc rs pc 4 3 w h ⟨by omega, by omega⟩)
  have HR := hide (fun w h1 h2 => iRead_any a1 a2 a3 n1 c1 n2 c2 n3 c3 x1 x2 x3 pc 4 w h1 h2 (by omega))
  generalize alw rs rn pc 4 3 = A at *
  generalize rd n1 n2 n3 x1 x2 pc 4 = R at *
  obtain ⟨x, q⟩ := R
  dsimp only at hr HR hf0 ⊢
  have HF := hide hf0
  clear hf0
  obtain ⟨v, hv⟩ : ∃ v, v = fin f x := ⟨_, rfl⟩
  rw [← hv]
  have HV := hide hv
  clear hv
  have HD := hide (fun w => iDecode_any x w)
  have HPC := hide (show IntKind.i64.wrap pc = pc by rw [IntKind.wrap_i64]; omega)
  have hc := h0.pr.pc
  obtain ⟨m1, m2, m3, m4⟩ := h0.pr.mem
  go_enter Tryz.func170, Tryz.ntmps170
  go_wp2_with fail
  go_region_held3 (fun w' => w'.cell? ⟨g, 0, none⟩ = some (.int .u32 pc) ∧ w'.cell? ⟨g, 12, none⟩ = some (.slice ra rn rc)) (go_keep)
    (first
      | (go_at_call 39; rw [HPC.out]; refine (HA.out _ (by exact h0.rs)).mono ?_; rintro e w1 ⟨rfl, hb1⟩; replace hb1 := undrew hb1; have H1 := h0.below hb1; have hc1 := H1.pr.pc; obtain ⟨o1, o2, o3, o4⟩ := H1.pr.mem))
  have kr1 := kr.below hb1
  have hB1 := hB0.trans (hb1.mono (by simp))
  clear hb1 h0 kr hB0 h hc m1 m2 m3 m4
  obtain ⟨k1, k2, k3, k4, k5⟩ := kr1.four'
  cases A
  · have hf := HF.out
    rw [if_neg (by simp)] at hf
    subst hf
    have HX := hide (ins_set kr1 0 0 0 0)
    have HB := hide (ins_below (Nat.le_refl _) hB1 0 0 0 0)
    obtain ⟨y1, y2, y3, y4, y5⟩ := HX.out.four'
    obtain rfl : v = .agg #[.int .i64 0, .int .i64 0, .int .i64 0, .int .i64 0] := HV.out
    clear kr1 hB1 H1
    go_wp2
    exact bodyPost_ret (v := .tuple #[.agg #[.int .i64 0, .int .i64 0, .int .i64 0, .int .i64 0], .int .i64 5]) (by simp [results, Tryz.results170, go_sem, y1, y2, y3, y4]) rfl ⟨rfl, HB.out⟩
  · go_wp2_with fail
    go_region_held3 (fun w' => w'.cell? ⟨g, 0, none⟩ = some (.int .u32 pc) ∧ w'.cell? ⟨g, 9, none⟩ = some (.slice a1 n1 c1) ∧ w'.cell? ⟨g, 10, none⟩ = some (.slice a2 n2 c2) ∧ w'.cell? ⟨g, 11, none⟩ = some (.slice a3 n3 c3)) (go_keep)
      (first
        | (go_at_call 75; rw [HPC.out]; refine (HR.out _ (by exact H1.own.1.bs) (by exact H1.own.2.1.bs)).mono ?_; rintro e w2 ⟨rfl, hb2⟩; replace hb2 := undrew hb2; have H2 := H1.below hb2; have hc2 := H2.pr.pc; obtain ⟨j1, j2, j3, j4⟩ := H2.pr.mem))
    have kr2 := kr1.below hb2
    have hB2 := hB1.trans (hb2.mono hB1.size)
    clear hb2 H1 kr1 hB1 hc1 o1 o2 o3 o4 k1 k2 k3 k4 k5
    obtain ⟨k1, k2, k3, k4, k5⟩ := kr2.four'
    by_cases hq : q = 0
    · subst hq
      have hf := HF.out
      simp only [reduceIte] at hf
      clear HF
      go_wp2_with fail
      refine (HD.out _).mono ?_
      intro e w3 hd
      unfold DecPost at hd
      cases hok : dOk x
      · rw [hok, if_neg (by simp)] at hd
        rw [hok, if_neg (by simp)] at hf
        subst hf
        obtain ⟨rfl, hb3⟩ := hd
        have kr3 := kr2.below hb3
        have hB3 := hB2.trans (hb3.mono hB2.size)
        have HX := hide ((ins_set kr3 0 0 0 0).alloc (.cells #[.int .i64 0, .int .i64 0, .int .i64 0, .int .i64 0] 124))
        have HB := hide ((ins_below (Nat.le_refl _) hB3 0 0 0 0).alloc (by simp only [size_setCell]; exact hB3.size) (.cells #[.int .i64 0, .int .i64 0, .int .i64 0, .int .i64 0] 124))
        obtain ⟨y1, y2, y3, y4, y5⟩ := HX.out.four'
        clear k1 k2 k3 k4 k5 hc2 j1 j2 j3 j4
        have hlt3 := kr3.lt
        obtain ⟨k1, k2, k3, k4, k5⟩ := kr3.four'
        obtain rfl : v = .agg #[.int .i64 0, .int .i64 0, .int .i64 0, .int .i64 0] := HV.out
        clear kr3 hB3 kr2 hB2 H2 hb3
        go_wp2
        exact bodyPost_ret (v := .tuple #[.agg #[.int .i64 0, .int .i64 0, .int .i64 0, .int .i64 0], .int .i64 6]) (by simp [results, Tryz.results170, go_sem, y1, y2, y3, y4]) rfl ⟨rfl, HB.out⟩
      · rw [hok, if_pos rfl] at hd
        rw [hok, if_pos rfl] at hf
        subst hf
        obtain ⟨rfl, hb3⟩ := hd
        have kr3 := kr2.below hb3
        have hB3 := hB2.trans (hb3.mono hB2.size)
        have hv : v = .agg #[.int .i64 (x / 67108864), .int .i64 (x / 8388608 % 8), .int .i64 (x / 1048576 % 8), .int .i64 (x % 65536)] := HV.out
        clear HV
        generalize x / 67108864 = o at *
        generalize x / 8388608 % 8 = d at *
        generalize x / 1048576 % 8 = a at *
        generalize x % 65536 = i at *
        subst hv
        have HX := hide ((ins_set kr3 o d a i).alloc (.cells #[.int .i64 o, .int .i64 d, .int .i64 a, .int .i64 i] 124))
        have HB := hide ((ins_below (Nat.le_refl _) hB3 o d a i).alloc (by simp only [size_setCell]; exact hB3.size) (.cells #[.int .i64 o, .int .i64 d, .int .i64 a, .int .i64 i] 124))
        obtain ⟨y1, y2, y3, y4, y5⟩ := HX.out.four'
        clear k1 k2 k3 k4 k5 hc2 j1 j2 j3 j4
        have hlt3 := kr3.lt
        obtain ⟨k1, k2, k3, k4, k5⟩ := kr3.four'
        clear kr3 hB3 kr2 hB2 H2 hb3
        go_wp2
        exact bodyPost_ret (v := .tuple #[.agg #[.int .i64 o, .int .i64 d, .int .i64 a, .int .i64 i], .int .i64 0]) (by simp [results, Tryz.results170, go_sem, y1, y2, y3, y4]) rfl ⟨rfl, HB.out⟩
    · have hq' : (q != 0) = true := by simpa using hq
      have hf := HF.out
      simp only [reduceIte, hq] at hf
      subst hf
      have HX := hide (ins_set kr2 0 0 0 0)
      have HB := hide (ins_below (Nat.le_refl _) hB2 0 0 0 0)
      obtain ⟨y1, y2, y3, y4, y5⟩ := HX.out.four'
      obtain rfl : v = .agg #[.int .i64 0, .int .i64 0, .int .i64 0, .int .i64 0] := by rw [HV.out, fin, if_neg hq]
      clear kr2 hB2 H2
      go_wp2
      exact bodyPost_ret (v := .tuple #[.agg #[.int .i64 0, .int .i64 0, .int .i64 0, .int .i64 0], .int .i64 f]) (by simp [results, Tryz.results170, go_sem, y1, y2, y3, y4]) rfl ⟨rfl, HB.out⟩
end Go.Proofs.YtngdgogjlpjjpadGreat
