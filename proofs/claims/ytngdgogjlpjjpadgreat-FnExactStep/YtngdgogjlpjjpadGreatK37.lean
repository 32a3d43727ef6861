import Derived.Test.YtngdgogjlpjjpadGreatK36
import Derived.Test.YtngdgogjlpjjpadGreatK07
import Derived.Test.YtngdgogjlpjjpadGreatK30
namespace Go.Proofs.YtngdgogjlpjjpadGreat
open Go.RowKit
set_option linter.unusedVariables false
set_option linter.unusedSimpArgs false
set_option maxRecDepth 100000

def swr (n1 n2 n3 : Nat) (x1 x2 x3 : List Int) (rs : List Rg) (rn : Nat) (z s v : Int) : List Int × List Int × List Int × Int := if alw rs rn z s 2 = true then wrm n1 n2 n3 x1 x2 x3 z s v else (x1, x2, x3, 5)
set_option maxHeartbeats 2000000 in
theorem l3Memory_17 (d a i : Int) (pc : Int) (rb cp : Nat) (rg : List Int) (g1 g2 g3 n1 c1 n2 c2 n3 c3 : Nat) (x1 x2 x3 : List Int) (ra : Option Addr) (rn rc : Nat) (rs : List Rg) (base : Nat) (w : World) (ho : OI w base (.slice (some ⟨rb, 0, none⟩) 8 cp) rg) (hm : Own3 w base (.slice (some ⟨g1, 0, none⟩) n1 c1) (.slice (some ⟨g2, 0, none⟩) n2 c2) (.slice (some ⟨g3, 0, none⟩) n3 c3) x1 x2 x3) (hrs : RS w ra rn rc rs) (hw : ∀ z ∈ rg, 0 ≤ z ∧ z ≤ 4294967295) (hn : n1 + n2 + n3 ≤ 1048576) (hb : base ≤ w.heap.size) (d0 : 0 ≤ d) (d1 : d < 8) (a0 : 0 ≤ a) (a7 : a < 8) (i0 : 0 ≤ i) (i1 : i ≤ 65535) :
    Calls Tryz.prog 86 #[.agg #[.int .i64 pc, .slice (some ⟨rb, 0, none⟩) 8 cp], .agg #[.slice (some ⟨g1, 0, none⟩) n1 c1, .slice (some ⟨g2, 0, none⟩) n2 c2, .slice (some ⟨g3, 0, none⟩) n3 c3], .slice ra rn rc, .agg #[.int .i64 17, .int .i64 d, .int .i64 a, .int .i64 i]] w (MmPost w base pc (.slice (some ⟨rb, 0, none⟩) 8 cp) (swr n1 n2 n3 x1 x2 x3 rs rn (atOf rg a i) 1 (rg.getD d.toNat 0)).2.2.2 rg (swr n1 n2 n3 x1 x2 x3 rs rn (atOf rg a i) 1 (rg.getD d.toNat 0)).1 (swr n1 n2 n3 x1 x2 x3 rs rn (atOf rg a i) 1 (rg.getD d.toNat 0)).2.1 (swr n1 n2 n3 x1 x2 x3 rs rn (atOf rg a i) 1 (rg.getD d.toNat 0)).2.2.1) := by
  obtain ⟨Q, hQ⟩ : ∃ Q, Q = swr n1 n2 n3 x1 x2 x3 rs rn (atOf rg a i) 1 (rg.getD d.toNat 0) := ⟨_, rfl⟩
  rw [← hQ]
  unfold swr at hQ
  obtain ⟨W, hW⟩ : ∃ W, W = (((((w.alloc (.cells #[.int .i64 pc, .slice (some ⟨rb, 0, none⟩) 8 cp] 58)).alloc (.cells #[.slice (some ⟨g1, 0, none⟩) n1 c1, .slice (some ⟨g2, 0, none⟩) n2 c2, .slice (some ⟨g3, 0, none⟩) n3 c3] 38)).alloc (.cells #[.int .i64 17, .int .i64 d, .int .i64 a, .int .i64 i] 124)).alloc (.cells #[.int .i64 0, .slice none 0 0] 58)).alloc (.cells #[.slice none 0 0, .slice none 0 0, .slice none 0 0] 38)) := ⟨_, rfl⟩
  have hB0 : Below w.heap.size w W := by rw [hW]; exact (((((Below.refl _ _).alloc (Nat.le_refl _) _).alloc (by simp) _).alloc (by simp; omega) _).alloc (by simp; omega) _).alloc (by simp; omega) _
  have k0 : Blk W (w.heap.size) #[.int .i64 pc, .slice (some ⟨rb, 0, none⟩) 8 cp] 58 := by
    rw [hW]
    have := ((((Blk.new w #[.int .i64 pc, .slice (some ⟨rb, 0, none⟩) 8 cp] 58).alloc (.cells #[.slice (some ⟨g1, 0, none⟩) n1 c1, .slice (some ⟨g2, 0, none⟩) n2 c2, .slice (some ⟨g3, 0, none⟩) n3 c3] 38)).alloc (.cells #[.int .i64 17, .int .i64 d, .int .i64 a, .int .i64 i] 124)).alloc (.cells #[.int .i64 0, .slice none 0 0] 58)).alloc (.cells #[.slice none 0 0, .slice none 0 0, .slice none 0 0] 38)
    simpa only [World.size_alloc] using this
  have k1 : Blk W (w.heap.size + 1) #[.slice (some ⟨g1, 0, none⟩) n1 c1, .slice (some ⟨g2, 0, none⟩) n2 c2, .slice (some ⟨g3, 0, none⟩) n3 c3] 38 := by
    rw [hW]
    have := (((Blk.new (w.alloc (.cells #[.int .i64 pc, .slice (some ⟨rb, 0, none⟩) 8 cp] 58)) #[.slice (some ⟨g1, 0, none⟩) n1 c1, .slice (some ⟨g2, 0, none⟩) n2 c2, .slice (some ⟨g3, 0, none⟩) n3 c3] 38).alloc (.cells #[.int .i64 17, .int .i64 d, .int .i64 a, .int .i64 i] 124)).alloc (.cells #[.int .i64 0, .slice none 0 0] 58)).alloc (.cells #[.slice none 0 0, .slice none 0 0, .slice none 0 0] 38)
    simpa only [World.size_alloc] using this
  have k2 : Blk W (w.heap.size + 1 + 1) #[.int .i64 17, .int .i64 d, .int .i64 a, .int .i64 i] 124 := by
    rw [hW]
    have := ((Blk.new ((w.alloc (.cells #[.int .i64 pc, .slice (some ⟨rb, 0, none⟩) 8 cp] 58)).alloc (.cells #[.slice (some ⟨g1, 0, none⟩) n1 c1, .slice (some ⟨g2, 0, none⟩) n2 c2, .slice (some ⟨g3, 0, none⟩) n3 c3] 38)) #[.int .i64 17, .int .i64 d, .int .i64 a, .int .i64 i] 124).alloc (.cells #[.int .i64 0, .slice none 0 0] 58)).alloc (.cells #[.slice none 0 0, .slice none 0 0, .slice none 0 0] 38)
    simpa only [World.size_alloc] using this
  have k3 : Blk W (w.heap.size + 1 + 1 + 1) #[.int .i64 0, .slice none 0 0] 58 := by
    rw [hW]
    have := (Blk.new (((w.alloc (.cells #[.int .i64 pc, .slice (some ⟨rb, 0, none⟩) 8 cp] 58)).alloc (.cells #[.slice (some ⟨g1, 0, none⟩) n1 c1, .slice (some ⟨g2, 0, none⟩) n2 c2, .slice (some ⟨g3, 0, none⟩) n3 c3] 38)).alloc (.cells #[.int .i64 17, .int .i64 d, .int .i64 a, .int .i64 i] 124)) #[.int .i64 0, .slice none 0 0] 58).alloc (.cells #[.slice none 0 0, .slice none 0 0, .slice none 0 0] 38)
    simpa only [World.size_alloc] using this
  have k4 : Blk W (w.heap.size + 1 + 1 + 1 + 1) #[.slice none 0 0, .slice none 0 0, .slice none 0 0] 38 := by
    rw [hW]
    have := Blk.new ((((w.alloc (.cells #[.int .i64 pc, .slice (some ⟨rb, 0, none⟩) 8 cp] 58)).alloc (.cells #[.slice (some ⟨g1, 0, none⟩) n1 c1, .slice (some ⟨g2, 0, none⟩) n2 c2, .slice (some ⟨g3, 0, none⟩) n3 c3] 38)).alloc (.cells #[.int .i64 17, .int .i64 d, .int .i64 a, .int .i64 i] 124)).alloc (.cells #[.int .i64 0, .slice none 0 0] 58)) #[.slice none 0 0, .slice none 0 0, .slice none 0 0] 38
    simpa only [World.size_alloc] using this
  have O0 := ho.below hB0
  have M0 := own3_below hm hB0
  have R0 := hrs.below hB0
  have hl := ho.is.1
  have hza := hw (rg.getD a.toNat 0) (by rw [List.getD_eq_getElem?_getD, List.getElem?_eq_getElem (show a.toNat < rg.length by omega)]; exact List.getElem_mem _)
  have hzd := hw (rg.getD d.toNat 0) (by rw [List.getD_eq_getElem?_getD, List.getElem?_eq_getElem (show d.toNat < rg.length by omega)]; exact List.getElem_mem _)
  have ca := O0.is.at a.toNat (by omega)
  simp only [Nat.zero_add] at ca
  obtain ⟨za0, za1⟩ := hza
  obtain ⟨u0, u1⟩ := atOf_range rg a i
  obtain ⟨xi0, xi1⟩ := wide_range i i0 i1
  have HAT := hide (show (rg.getD a.toNat 0 + wide i) % 4294967296 = atOf rg a i from rfl)
  have HWD := hide (fun w => l3Wide_any i w i0 i1)
  have hrr := rd_range n1 n2 n3 x1 x2 (atOf rg a i) 1 hm.1.2 hm.2.1.2
  generalize atOf rg a i = z at *
  have cd := O0.is.at d.toNat (by omega)
  simp only [Nat.zero_add] at cd
  generalize rg.getD a.toNat 0 = y at *
  generalize rg.getD d.toNat 0 = yd at *
  generalize wide i = x at *
  have HWR := hide (show IntKind.i64.wrap (y + x) = y + x by rw [IntKind.wrap_i64]; omega)
  have HWO := hide (fun w => l1Word_any (y + x) w ⟨by omega, by omega⟩)
  rw [HAT.out] at HWO
  have HAL := hide (fun w h => sAllowed_any ra rn rc rs z 1 2 w h ⟨by omega, by omega⟩)
  have ne0 : w.heap.size ≠ w.heap.size + 1 := by omega
  have ne1 : w.heap.size ≠ w.heap.size + 1 + 1 := by omega
  have ne2 : w.heap.size ≠ w.heap.size + 1 + 1 + 1 := by omega
  have ne3 : w.heap.size ≠ w.heap.size + 1 + 1 + 1 + 1 := by omega
  have ne4 : w.heap.size + 1 ≠ w.heap.size := by omega
  have ne5 : w.heap.size + 1 ≠ w.heap.size + 1 + 1 := by omega
  have ne6 : w.heap.size + 1 ≠ w.heap.size + 1 + 1 + 1 := by omega
  have ne7 : w.heap.size + 1 ≠ w.heap.size + 1 + 1 + 1 + 1 := by omega
  have ne8 : w.heap.size + 1 + 1 ≠ w.heap.size := by omega
  have ne9 : w.heap.size + 1 + 1 ≠ w.heap.size + 1 := by omega
  have ne10 : w.heap.size + 1 + 1 ≠ w.heap.size + 1 + 1 + 1 := by omega
  have ne11 : w.heap.size + 1 + 1 ≠ w.heap.size + 1 + 1 + 1 + 1 := by omega
  have ne12 : w.heap.size + 1 + 1 + 1 ≠ w.heap.size := by omega
  have ne13 : w.heap.size + 1 + 1 + 1 ≠ w.heap.size + 1 := by omega
  have ne14 : w.heap.size + 1 + 1 + 1 ≠ w.heap.size + 1 + 1 := by omega
  have ne15 : w.heap.size + 1 + 1 + 1 ≠ w.heap.size + 1 + 1 + 1 + 1 := by omega
  have ne16 : w.heap.size + 1 + 1 + 1 + 1 ≠ w.heap.size := by omega
  have ne17 : w.heap.size + 1 + 1 + 1 + 1 ≠ w.heap.size + 1 := by omega
  have ne18 : w.heap.size + 1 + 1 + 1 + 1 ≠ w.heap.size + 1 + 1 := by omega
  have ne19 : w.heap.size + 1 + 1 + 1 + 1 ≠ w.heap.size + 1 + 1 + 1 := by omega
  have HWW := hide (fun w h1 h2 h3 => sWrite_any g1 0 g2 0 g3 0 n1 c1 n2 c2 n3 c3 x1 x2 x3 z 1 yd w h1 h2 h3 hn ⟨by omega, by omega⟩ (by omega))
  generalize alw rs rn z 1 2 = AL at *
  generalize wrm n1 n2 n3 x1 x2 x3 z 1 yd = WR at *
  have HQ := hide hQ
  clear hQ
  have lt0 := k0.lt
  have lt1 := k1.lt
  have lt2 := k2.lt
  have lt3 := k3.lt
  have lt4 := k4.lt
  obtain ⟨e1, e2, e3⟩ := k0.two'
  obtain ⟨f1, f2, f3, f4⟩ := k1.three
  obtain ⟨j1, j2, j3, j4, j5⟩ := k2.four'
  go_enter Tryz.func86, Tryz.ntmps86
  go_wp2_with fail
  rw [← hW]
  clear hW
  go_region_held3 (fun w' => w'.cell? ⟨w.heap.size, 1, none⟩ = some (.slice (some ⟨rb, 0, none⟩) 8 cp) ∧ w'.cell? ⟨w.heap.size + 1 + 1, 2, none⟩ = some (.int .i64 a) ∧ w'.cell? ⟨w.heap.size + 1 + 1, 3, none⟩ = some (.int .i64 i) ∧ w'.cell? ⟨rb, a.toNat, none⟩ = some (.int .i64 y)) (go_keep)
    (first
      | (go_at_call 89; refine (HWD.out _).mono ?_; rintro e w1 ⟨rfl, rfl⟩)
      | (go_at_call 72; rw [HWR.out]; refine (HWO.out _).mono ?_; rintro e w1 ⟨rfl, rfl⟩))
  all_goals
    have KX := Blk.new W #[.int .i64 1, .int .i64 2, .int .i64 4] 3
    go_wp2_with fail
    have hV : Below W.heap.size W (W.alloc (.cells #[.int .i64 1, .int .i64 2, .int .i64 4] 3)).drew := ((Below.refl _ _).alloc (Nat.le_refl _) _).drew
    refine (HAL.out _ (by exact R0.below hV)).mono ?_
    rintro e w1 ⟨rfl, hb1⟩
    have b1 : Below W.heap.size W w1 := hV.trans (hb1.mono hV.size)
    have r0 := k0.below b1
    have r1 := k1.below b1
    have r2 := k2.below b1
    have r3 := k3.below b1
    have r4 := k4.below b1
    have M2 := own3_below M0 b1
    have O2 := O0.below b1
    have T2 : Turn (fun j => (Value.slice (some ⟨rb, 0, none⟩) 8 cp).ownBlock = some j) w w1 := turn_below (hB0.trans (b1.mono hB0.size))
    have cd1 : w1.cell? ⟨rb, d.toNat, none⟩ = some (.int .i64 yd) := (b1.cell (World.block_lt_of_cell? W _ cd)).trans cd
    have hw1 := b1.size
    have hw0 := hB0.size
    clear hb1 hV b1 k0 k1 k2 k3 k4 M0 O0 hB0 e1 e2 e3 f1 f2 f3 f4 j1 j2 j3 j4 j5 ca cd KX R0 lt0 lt1 lt2 lt3 lt4
    cases AL
    · obtain rfl : Q = (x1, x2, x3, 5) := HQ.out
      dsimp only
      obtain ⟨fA, ya0, ya1, ya2, ya3, ya4⟩ := st_keyd (pc := pc) O2 M2 r3 r4 T2 (by omega) (Or.inl rfl)
      obtain ⟨fB, yb0, yb1, yb2, yb3, yb4⟩ := st_keyd (pc := pc) O2 M2 r3 r4 T2 (by omega) (Or.inr rfl)
      simp only [setC, setM] at fA ya0 ya1 ya2 ya3 ya4 fB yb0 yb1 yb2 yb3 yb4
      have FA := hide fA
      have FB := hide fB
      obtain ⟨t1, t2, t3⟩ := r0.two'
      obtain ⟨s1, s2, s3, s4⟩ := r1.three
      obtain ⟨z1, z2, z3⟩ := r3.two'
      obtain ⟨z4, z5, z6, z7⟩ := r4.three
      clear fA fB
      go_wp2
      go_region
      all_goals
        go_wp2
        exact bodyPost_ret (v := .tuple #[.agg #[.int .i64 pc, .slice (some ⟨rb, 0, none⟩) 8 cp], .agg #[.slice (some ⟨g1, 0, none⟩) n1 c1, .slice (some ⟨g2, 0, none⟩) n2 c2, .slice (some ⟨g3, 0, none⟩) n3 c3], .int .i64 5]) (by first | (simp [results, Tryz.results86, go_sem, ya0, ya1, ya2, ya3, ya4]; done) | (simp [results, Tryz.results86, go_sem, yb0, yb1, yb2, yb3, yb4]; done)) rfl
          ⟨_, _, _, _, _, _, _, _, _, rfl, by first | exact FA.out.1 | exact FB.out.1, by first | exact FA.out.2.1 | exact FB.out.2.1, by first | exact FA.out.2.2 | exact FB.out.2.2⟩

    · obtain rfl : Q = WR := HQ.out
      obtain ⟨y1, y2, y3, f⟩ := Q
      dsimp only at HWW ⊢
      obtain ⟨t1, t2, t3⟩ := r0.two'
      obtain ⟨s1, s2, s3, s4⟩ := r1.three
      obtain ⟨l1, l2, l3, l4, l5⟩ := r2.four'
      go_wp2_with fail
      have lv4 := r4.lt
      have lvr := World.block_lt_of_cell? w1 _ cd1
      dsimp only at lvr
      have nv0 : w.heap.size ≠ w1.heap.size := by omega
      have nv1 : w.heap.size + 1 ≠ w1.heap.size := by omega
      have nv2 : w.heap.size + 1 + 1 ≠ w1.heap.size := by omega
      have nv3 : w.heap.size + 1 + 1 + 1 ≠ w1.heap.size := by omega
      have nv4 : w.heap.size + 1 + 1 + 1 + 1 ≠ w1.heap.size := by omega
      have nv5 : rb ≠ w1.heap.size := by omega
      have mv0 := nv0.symm
      have mv1 := nv1.symm
      have mv2 := nv2.symm
      have mv3 := nv3.symm
      have mv4 := nv4.symm
      have mv5 := nv5.symm
      have lv0 := r0.lt
      have lv1 := r1.lt
      have lv2 := r2.lt
      have hA : Below w1.heap.size w1 (w1.alloc (.cells #[.slice none 0 0, .slice none 0 0, .slice none 0 0] 38)) := (Below.refl _ _).alloc (Nat.le_refl _) _
      have kN := Blk.new w1 #[.slice none 0 0, .slice none 0 0, .slice none 0 0] 38
      have N1 := M2.1.bs.below hA
      have N2 := M2.2.1.bs.below hA
      have N3 := M2.2.2.1.bs.below hA
      go_region_held3 (fun w' => w'.cell? ⟨w.heap.size, 1, none⟩ = some (.slice (some ⟨rb, 0, none⟩) 8 cp) ∧ w'.cell? ⟨w.heap.size + 1, 0, none⟩ = some (.slice (some ⟨g1, 0, none⟩) n1 c1) ∧ w'.cell? ⟨w.heap.size + 1, 1, none⟩ = some (.slice (some ⟨g2, 0, none⟩) n2 c2) ∧ w'.cell? ⟨w.heap.size + 1, 2, none⟩ = some (.slice (some ⟨g3, 0, none⟩) n3 c3) ∧ w'.cell? ⟨w.heap.size + 1 + 1, 1, none⟩ = some (.int .i64 d) ∧ w'.cell? ⟨rb, d.toNat, none⟩ = some (.int .i64 yd)) (go_keep)
        (first
          | (go_at_call 166; refine (HWW.out _ (by exact M2.1.bs) (by exact M2.2.1.bs) (by exact M2.2.2.1.bs)).mono ?_; rintro e w2 ⟨e1, m1, h1, e2, m2, h2, e3, m3, h3, rfl, MW, hb2⟩; (try replace hb2 := undrew hb2); have isA := True.intro; have MW' : Own3 w2 w1.heap.size (.slice e1 m1 h1) (.slice e2 m2 h2) (.slice e3 m3 h3) y1 y2 y3 := MW; obtain ⟨t1, t2, t3⟩ := (r0.below hb2).two'; obtain ⟨s1, s2, s3, s4⟩ := (r1.below hb2).three; obtain ⟨l1, l2, l3, l4, l5⟩ := (r2.below hb2).four'; have cd2 := (hb2.cell (World.block_lt_of_cell? w1 _ cd1)).trans cd1; have lu0 := (r0.below hb2).lt; have lu1 := (r1.below hb2).lt; have lu2 := (r2.below hb2).lt; have lur := World.block_lt_of_cell? w2 _ cd2; dsimp only at lur)
          | (go_at_call 166; refine (HWW.out _ (by exact N1) (by exact N2) (by exact N3)).mono ?_; rintro e w2 ⟨e1, m1, h1, e2, m2, h2, e3, m3, h3, rfl, MW, hb2⟩; (try replace hb2 := undrew hb2); have isB := True.intro; have MW' : Own3 w2 (w1.heap.size + 1) (.slice e1 m1 h1) (.slice e2 m2 h2) (.slice e3 m3 h3) y1 y2 y3 := (by simpa only [heap_drew, World.size_alloc] using MW); have kN2 := kN.below hb2; obtain ⟨v1, v2, v3, v4⟩ := kN2.three; replace hb2 := hA.trans (hb2.mono hA.size); obtain ⟨t1, t2, t3⟩ := (r0.below hb2).two'; obtain ⟨s1, s2, s3, s4⟩ := (r1.below hb2).three; obtain ⟨l1, l2, l3, l4, l5⟩ := (r2.below hb2).four'; have cd2 := (hb2.cell (World.block_lt_of_cell? w1 _ cd1)).trans cd1; have lu0 := (r0.below hb2).lt; have lu1 := (r1.below hb2).lt; have lu2 := (r2.below hb2).lt; have lur := World.block_lt_of_cell? w2 _ cd2; dsimp only at lur))
      all_goals
        clear t1 t2 t3 s1 s2 s3 s4 l1 l2 l3 l4 l5
        replace r0 := r0.below hb2
        replace r3 := r3.below hb2
        replace r4 := r4.below hb2
        replace O2 := O2.below hb2
        replace T2 := T2.trans (turn_below hb2)
        have hz2 := hb2.size
        clear M2 N1 N2 N3 r1 r2 hb2 MW cd1 cd2
        first
        | (clear isA
           have kX := Blk.new w2 #[.slice e1 m1 h1, .slice e2 m2 h2, .slice e3 m3 h3] 38
           have hA2 : Below w2.heap.size w2 (w2.alloc (.cells #[.slice e1 m1 h1, .slice e2 m2 h2, .slice e3 m3 h3] 38)) := (Below.refl _ _).alloc (Nat.le_refl _) _
           have M2 := own3_mono (own3_below MW' hA2) (show base ≤ w1.heap.size by omega)
           replace r0 := r0.below hA2
           replace r3 := r3.below hA2
           replace r4 := r4.below hA2
           replace O2 := O2.below hA2
           replace T2 := T2.trans (turn_below hA2)
           clear MW' hA2
           obtain ⟨fA, ya0, ya1, ya2, ya3, ya4⟩ := st_keyd (pc := pc) O2 M2 r3 r4 T2 (by omega) (Or.inl rfl)
           obtain ⟨fB, yb0, yb1, yb2, yb3, yb4⟩ := st_keyd (pc := pc) O2 M2 r3 r4 T2 (by omega) (Or.inr rfl)
           simp only [setC, setM] at fA ya0 ya1 ya2 ya3 ya4 fB yb0 yb1 yb2 yb3 yb4
           have FA := hide fA
           have FB := hide fB
           obtain ⟨t1, t2, t3⟩ := r0.two'
           obtain ⟨s1, s2, s3, s4⟩ := kX.three
           obtain ⟨z1, z2, z3⟩ := r3.two'
           obtain ⟨z4, z5, z6, z7⟩ := r4.three
           clear fA fB
           go_wp2
           go_region
           all_goals
             go_wp2
             exact bodyPost_ret (v := .tuple #[.agg #[.int .i64 pc, .slice (some ⟨rb, 0, none⟩) 8 cp], .agg #[.slice e1 m1 h1, .slice e2 m2 h2, .slice e3 m3 h3], .int .i64 f]) (by first | (simp [results, Tryz.results86, go_sem, ya0, ya1, ya2, ya3, ya4]; done) | (simp [results, Tryz.results86, go_sem, yb0, yb1, yb2, yb3, yb4]; done)) rfl
               ⟨_, _, _, _, _, _, _, _, _, rfl, by first | exact FA.out.1 | exact FB.out.1, by first | exact FA.out.2.1 | exact FB.out.2.1, by first | exact FA.out.2.2 | exact FB.out.2.2⟩)
        | (clear isB
           have kX : Blk (((w2.setCell ⟨w1.heap.size, 0, none⟩ (.slice e1 m1 h1)).setCell ⟨w1.heap.size, 1, none⟩ (.slice e2 m2 h2)).setCell ⟨w1.heap.size, 2, none⟩ (.slice e3 m3 h3)) w1.heap.size #[.slice e1 m1 h1, .slice e2 m2 h2, .slice e3 m3 h3] 38 := by
             have := ((kN2.set 0 (.slice e1 m1 h1)).set 1 (.slice e2 m2 h2)).set 2 (.slice e3 m3 h3)
             simpa using this
           have M2 := own3_mono (own3_other (own3_other (own3_other MW' ⟨w1.heap.size, 0, none⟩ (.slice e1 m1 h1) (by dsimp only; omega)) ⟨w1.heap.size, 1, none⟩ (.slice e2 m2 h2) (by dsimp only; omega)) ⟨w1.heap.size, 2, none⟩ (.slice e3 m3 h3) (by dsimp only; omega)) (show base ≤ w1.heap.size + 1 by omega)
           have tt : Turn (fun j => j = w1.heap.size) w2 (((w2.setCell ⟨w1.heap.size, 0, none⟩ (.slice e1 m1 h1)).setCell ⟨w1.heap.size, 1, none⟩ (.slice e2 m2 h2)).setCell ⟨w1.heap.size, 2, none⟩ (.slice e3 m3 h3)) := ((turn_setg _ _ _ _).trans (turn_setg _ _ _ _)).trans (turn_setg _ _ _ _)
           replace r0 := turn_blk tt r0 (fun e => nv0 e)
           replace r3 := turn_blk tt r3 (fun e => nv3 e)
           replace r4 := turn_blk tt r4 (fun e => nv4 e)
           replace O2 := turn_oi tt O2 (fun k hk e => by have e1 : some rb = some k := hk; injection e1 with e1; have e2 : k = w1.heap.size := e; omega)
           have T3 : Turn (fun j => (Value.slice (some ⟨rb, 0, none⟩) 8 cp).ownBlock = some j) w (((w2.setCell ⟨w1.heap.size, 0, none⟩ (.slice e1 m1 h1)).setCell ⟨w1.heap.size, 1, none⟩ (.slice e2 m2 h2)).setCell ⟨w1.heap.size, 2, none⟩ (.slice e3 m3 h3)) := ⟨tt.os.trans T2.os, tt.tape.trans T2.tape, tt.output.trans T2.output, Nat.le_trans T2.size tt.size, fun k hk hs => (tt.block k (by omega) (fun e => by have e2 : k = w1.heap.size := e; omega)).trans (T2.block k hk hs)⟩
           clear T2 tt kN2 MW'
           have T2 := T3
           clear T3
           obtain ⟨fA, ya0, ya1, ya2, ya3, ya4⟩ := st_keyd (pc := pc) O2 M2 r3 r4 T2 (by omega) (Or.inl rfl)
           obtain ⟨fB, yb0, yb1, yb2, yb3, yb4⟩ := st_keyd (pc := pc) O2 M2 r3 r4 T2 (by omega) (Or.inr rfl)
           simp only [setC, setM] at fA ya0 ya1 ya2 ya3 ya4 fB yb0 yb1 yb2 yb3 yb4
           have FA := hide fA
           have FB := hide fB
           obtain ⟨t1, t2, t3⟩ := r0.two'
           obtain ⟨s1, s2, s3, s4⟩ := kX.three
           obtain ⟨z1, z2, z3⟩ := r3.two'
           obtain ⟨z4, z5, z6, z7⟩ := r4.three
           clear fA fB
           go_wp2
           go_region
           all_goals
             go_wp2
             exact bodyPost_ret (v := .tuple #[.agg #[.int .i64 pc, .slice (some ⟨rb, 0, none⟩) 8 cp], .agg #[.slice e1 m1 h1, .slice e2 m2 h2, .slice e3 m3 h3], .int .i64 f]) (by first | (simp [results, Tryz.results86, go_sem, ya0, ya1, ya2, ya3, ya4]; done) | (simp [results, Tryz.results86, go_sem, yb0, yb1, yb2, yb3, yb4]; done)) rfl
               ⟨_, _, _, _, _, _, _, _, _, rfl, by first | exact FA.out.1 | exact FB.out.1, by first | exact FA.out.2.1 | exact FB.out.2.1, by first | exact FA.out.2.2 | exact FB.out.2.2⟩)
set_option maxHeartbeats 2000000 in
theorem l3Memory_18 (d a i : Int) (pc : Int) (rb cp : Nat) (rg : List Int) (g1 g2 g3 n1 c1 n2 c2 n3 c3 : Nat) (x1 x2 x3 : List Int) (ra : Option Addr) (rn rc : Nat) (rs : List Rg) (base : Nat) (w : World) (ho : OI w base (.slice (some ⟨rb, 0, none⟩) 8 cp) rg) (hm : Own3 w base (.slice (some ⟨g1, 0, none⟩) n1 c1) (.slice (some ⟨g2, 0, none⟩) n2 c2) (.slice (some ⟨g3, 0, none⟩) n3 c3) x1 x2 x3) (hrs : RS w ra rn rc rs) (hw : ∀ z ∈ rg, 0 ≤ z ∧ z ≤ 4294967295) (hn : n1 + n2 + n3 ≤ 1048576) (hb : base ≤ w.heap.size) (d0 : 0 ≤ d) (d1 : d < 8) (a0 : 0 ≤ a) (a7 : a < 8) (i0 : 0 ≤ i) (i1 : i ≤ 65535) :
    Calls Tryz.prog 86 #[.agg #[.int .i64 pc, .slice (some ⟨rb, 0, none⟩) 8 cp], .agg #[.slice (some ⟨g1, 0, none⟩) n1 c1, .slice (some ⟨g2, 0, none⟩) n2 c2, .slice (some ⟨g3, 0, none⟩) n3 c3], .slice ra rn rc, .agg #[.int .i64 18, .int .i64 d, .int .i64 a, .int .i64 i]] w (MmPost w base pc (.slice (some ⟨rb, 0, none⟩) 8 cp) (swr n1 n2 n3 x1 x2 x3 rs rn (atOf rg a i) 2 (rg.getD d.toNat 0)).2.2.2 rg (swr n1 n2 n3 x1 x2 x3 rs rn (atOf rg a i) 2 (rg.getD d.toNat 0)).1 (swr n1 n2 n3 x1 x2 x3 rs rn (atOf rg a i) 2 (rg.getD d.toNat 0)).2.1 (swr n1 n2 n3 x1 x2 x3 rs rn (atOf rg a i) 2 (rg.getD d.toNat 0)).2.2.1) := by
  obtain ⟨Q, hQ⟩ : ∃ Q, Q = swr n1 n2 n3 x1 x2 x3 rs rn (atOf rg a i) 2 (rg.getD d.toNat 0) := ⟨_, rfl⟩
  rw [← hQ]
  unfold swr at hQ
  obtain ⟨W, hW⟩ : ∃ W, W = (((((w.alloc (.cells #[.int .i64 pc, .slice (some ⟨rb, 0, none⟩) 8 cp] 58)).alloc (.cells #[.slice (some ⟨g1, 0, none⟩) n1 c1, .slice (some ⟨g2, 0, none⟩) n2 c2, .slice (some ⟨g3, 0, none⟩) n3 c3] 38)).alloc (.cells #[.int .i64 18, .int .i64 d, .int .i64 a, .int .i64 i] 124)).alloc (.cells #[.int .i64 0, .slice none 0 0] 58)).alloc (.cells #[.slice none 0 0, .slice none 0 0, .slice none 0 0] 38)) := ⟨_, rfl⟩
  have hB0 : Below w.heap.size w W := by rw [hW]; exact (((((Below.refl _ _).alloc (Nat.le_refl _) _).alloc (by simp) _).alloc (by simp; omega) _).alloc (by simp; omega) _).alloc (by simp; omega) _
  have k0 : Blk W (w.heap.size) #[.int .i64 pc, .slice (some ⟨rb, 0, none⟩) 8 cp] 58 := by
    rw [hW]
    have := ((((Blk.new w #[.int .i64 pc, .slice (some ⟨rb, 0, none⟩) 8 cp] 58).alloc (.cells #[.slice (some ⟨g1, 0, none⟩) n1 c1, .slice (some ⟨g2, 0, none⟩) n2 c2, .slice (some ⟨g3, 0, none⟩) n3 c3] 38)).alloc (.cells #[.int .i64 18, .int .i64 d, .int .i64 a, .int .i64 i] 124)).alloc (.cells #[.int .i64 0, .slice none 0 0] 58)).alloc (.cells #[.slice none 0 0, .slice none 0 0, .slice none 0 0] 38)
    simpa only [World.size_alloc] using this
  have k1 : Blk W (w.heap.size + 1) #[.slice (some ⟨g1, 0, none⟩) n1 c1, .slice (some ⟨g2, 0, none⟩) n2 c2, .slice (some ⟨g3, 0, none⟩) n3 c3] 38 := by
    rw [hW]
    have := (((Blk.new (w.alloc (.cells #[.int .i64 pc, .slice (some ⟨rb, 0, none⟩) 8 cp] 58)) #[.slice (some ⟨g1, 0, none⟩) n1 c1, .slice (some ⟨g2, 0, none⟩) n2 c2, .slice (some ⟨g3, 0, none⟩) n3 c3] 38).alloc (.cells #[.int .i64 18, .int .i64 d, .int .i64 a, .int .i64 i] 124)).alloc (.cells #[.int .i64 0, .slice none 0 0] 58)).alloc (.cells #[.slice none 0 0, .slice none 0 0, .slice none 0 0] 38)
    simpa only [World.size_alloc] using this
  have k2 : Blk W (w.heap.size + 1 + 1) #[.int .i64 18, .int .i64 d, .int .i64 a, .int .i64 i] 124 := by
    rw [hW]
    have := ((Blk.new ((w.alloc (.cells #[.int .i64 pc, .slice (some ⟨rb, 0, none⟩) 8 cp] 58)).alloc (.cells #[.slice (some ⟨g1, 0, none⟩) n1 c1, .slice (some ⟨g2, 0, none⟩) n2 c2, .slice (some ⟨g3, 0, none⟩) n3 c3] 38)) #[.int .i64 18, .int .i64 d, .int .i64 a, .int .i64 i] 124).alloc (.cells #[.int .i64 0, .slice none 0 0] 58)).alloc (.cells #[.slice none 0 0, .slice none 0 0, .slice none 0 0] 38)
    simpa only [World.size_alloc] using this
  have k3 : Blk W (w.heap.size + 1 + 1 + 1) #[.int .i64 0, .slice none 0 0] 58 := by
    rw [hW]
    have := (Blk.new (((w.alloc (.cells #[.int .i64 pc, .slice (some ⟨rb, 0, none⟩) 8 cp] 58)).alloc (.cells #[.slice (some ⟨g1, 0, none⟩) n1 c1, .slice (some ⟨g2, 0, none⟩) n2 c2, .slice (some ⟨g3, 0, none⟩) n3 c3] 38)).alloc (.cells #[.int .i64 18, .int .i64 d, .int .i64 a, .int .i64 i] 124)) #[.int .i64 0, .slice none 0 0] 58).alloc (.cells #[.slice none 0 0, .slice none 0 0, .slice none 0 0] 38)
    simpa only [World.size_alloc] using this
  have k4 : Blk W (w.heap.size + 1 + 1 + 1 + 1) #[.slice none 0 0, .slice none 0 0, .slice none 0 0] 38 := by
    rw [hW]
    have := Blk.new ((((w.alloc (.cells #[.int .i64 pc, .slice (some ⟨rb, 0, none⟩) 8 cp] 58)).alloc (.cells #[.slice (some ⟨g1, 0, none⟩) n1 c1, .slice (some ⟨g2, 0, none⟩) n2 c2, .slice (some ⟨g3, 0, none⟩) n3 c3] 38)).alloc (.cells #[.int .i64 18, .int .i64 d, .int .i64 a, .int .i64 i] 124)).alloc (.cells #[.int .i64 0, .slice none 0 0] 58)) #[.slice none 0 0, .slice none 0 0, .slice none 0 0] 38
    simpa only [World.size_alloc] using this
  have O0 := ho.below hB0
  have M0 := own3_below hm hB0
  have R0 := hrs.below hB0
  have hl := ho.is.1
  have hza := hw (rg.getD a.toNat 0) (by rw [List.getD_eq_getElem?_getD, List.getElem?_eq_getElem (show a.toNat < rg.length by omega)]; exact List.getElem_mem _)
  have hzd := hw (rg.getD d.toNat 0) (by rw [List.getD_eq_getElem?_getD, List.getElem?_eq_getElem (show d.toNat < rg.length by omega)]; exact List.getElem_mem _)
  have ca := O0.is.at a.toNat (by omega)
  simp only [Nat.zero_add] at ca
  obtain ⟨za0, za1⟩ := hza
  obtain ⟨u0, u1⟩ := atOf_range rg a i
  obtain ⟨xi0, xi1⟩ := wide_range i i0 i1
  have HAT := hide (show (rg.getD a.toNat 0 + wide i) % 4294967296 = atOf rg a i from rfl)
  have HWD := hide (fun w => l3Wide_any i w i0 i1)
  have hrr := rd_range n1 n2 n3 x1 x2 (atOf rg a i) 2 hm.1.2 hm.2.1.2
  generalize atOf rg a i = z at *
  have cd := O0.is.at d.toNat (by omega)
  simp only [Nat.zero_add] at cd
  generalize rg.getD a.toNat 0 = y at *
  generalize rg.getD d.toNat 0 = yd at *
  generalize wide i = x at *
  have HWR := hide (show IntKind.i64.wrap (y + x) = y + x by rw [IntKind.wrap_i64]; omega)
  have HWO := hide (fun w => l1Word_any (y + x) w ⟨by omega, by omega⟩)
  rw [HAT.out] at HWO
  have HAL := hide (fun w h => sAllowed_any ra rn rc rs z 2 2 w h ⟨by omega, by omega⟩)
  have ne0 : w.heap.size ≠ w.heap.size + 1 := by omega
  have ne1 : w.heap.size ≠ w.heap.size + 1 + 1 := by omega
  have ne2 : w.heap.size ≠ w.heap.size + 1 + 1 + 1 := by omega
  have ne3 : w.heap.size ≠ w.heap.size + 1 + 1 + 1 + 1 := by omega
  have ne4 : w.heap.size + 1 ≠ w.heap.size := by omega
  have ne5 : w.heap.size + 1 ≠ w.heap.size + 1 + 1 := by omega
  have ne6 : w.heap.size + 1 ≠ w.heap.size + 1 + 1 + 1 := by omega
  have ne7 : w.heap.size + 1 ≠ w.heap.size + 1 + 1 + 1 + 1 := by omega
  have ne8 : w.heap.size + 1 + 1 ≠ w.heap.size := by omega
  have ne9 : w.heap.size + 1 + 1 ≠ w.heap.size + 1 := by omega
  have ne10 : w.heap.size + 1 + 1 ≠ w.heap.size + 1 + 1 + 1 := by omega
  have ne11 : w.heap.size + 1 + 1 ≠ w.heap.size + 1 + 1 + 1 + 1 := by omega
  have ne12 : w.heap.size + 1 + 1 + 1 ≠ w.heap.size := by omega
  have ne13 : w.heap.size + 1 + 1 + 1 ≠ w.heap.size + 1 := by omega
  have ne14 : w.heap.size + 1 + 1 + 1 ≠ w.heap.size + 1 + 1 := by omega
  have ne15 : w.heap.size + 1 + 1 + 1 ≠ w.heap.size + 1 + 1 + 1 + 1 := by omega
  have ne16 : w.heap.size + 1 + 1 + 1 + 1 ≠ w.heap.size := by omega
  have ne17 : w.heap.size + 1 + 1 + 1 + 1 ≠ w.heap.size + 1 := by omega
  have ne18 : w.heap.size + 1 + 1 + 1 + 1 ≠ w.heap.size + 1 + 1 := by omega
  have ne19 : w.heap.size + 1 + 1 + 1 + 1 ≠ w.heap.size + 1 + 1 + 1 := by omega
  have HWW := hide (fun w h1 h2 h3 => sWrite_any g1 0 g2 0 g3 0 n1 c1 n2 c2 n3 c3 x1 x2 x3 z 2 yd w h1 h2 h3 hn ⟨by omega, by omega⟩ (by omega))
  generalize alw rs rn z 2 2 = AL at *
  generalize wrm n1 n2 n3 x1 x2 x3 z 2 yd = WR at *
  have HQ := hide hQ
  clear hQ
  have lt0 := k0.lt
  have lt1 := k1.lt
  have lt2 := k2.lt
  have lt3 := k3.lt
  have lt4 := k4.lt
  obtain ⟨e1, e2, e3⟩ := k0.two'
  obtain ⟨f1, f2, f3, f4⟩ := k1.three
  obtain ⟨j1, j2, j3, j4, j5⟩ := k2.four'
  go_enter Tryz.func86, Tryz.ntmps86
  go_wp2_with fail
  rw [← hW]
  clear hW
  go_region_held3 (fun w' => w'.cell? ⟨w.heap.size, 1, none⟩ = some (.slice (some ⟨rb, 0, none⟩) 8 cp) ∧ w'.cell? ⟨w.heap.size + 1 + 1, 2, none⟩ = some (.int .i64 a) ∧ w'.cell? ⟨w.heap.size + 1 + 1, 3, none⟩ = some (.int .i64 i) ∧ w'.cell? ⟨rb, a.toNat, none⟩ = some (.int .i64 y)) (go_keep)
    (first
      | (go_at_call 89; refine (HWD.out _).mono ?_; rintro e w1 ⟨rfl, rfl⟩)
      | (go_at_call 72; rw [HWR.out]; refine (HWO.out _).mono ?_; rintro e w1 ⟨rfl, rfl⟩))
  all_goals
    have KX := Blk.new W #[.int .i64 1, .int .i64 2, .int .i64 4] 3
    go_wp2_with fail
    have hV : Below W.heap.size W (W.alloc (.cells #[.int .i64 1, .int .i64 2, .int .i64 4] 3)).drew := ((Below.refl _ _).alloc (Nat.le_refl _) _).drew
    refine (HAL.out _ (by exact R0.below hV)).mono ?_
    rintro e w1 ⟨rfl, hb1⟩
    have b1 : Below W.heap.size W w1 := hV.trans (hb1.mono hV.size)
    have r0 := k0.below b1
    have r1 := k1.below b1
    have r2 := k2.below b1
    have r3 := k3.below b1
    have r4 := k4.below b1
    have M2 := own3_below M0 b1
    have O2 := O0.below b1
    have T2 : Turn (fun j => (Value.slice (some ⟨rb, 0, none⟩) 8 cp).ownBlock = some j) w w1 := turn_below (hB0.trans (b1.mono hB0.size))
    have cd1 : w1.cell? ⟨rb, d.toNat, none⟩ = some (.int .i64 yd) := (b1.cell (World.block_lt_of_cell? W _ cd)).trans cd
    have hw1 := b1.size
    have hw0 := hB0.size
    clear hb1 hV b1 k0 k1 k2 k3 k4 M0 O0 hB0 e1 e2 e3 f1 f2 f3 f4 j1 j2 j3 j4 j5 ca cd KX R0 lt0 lt1 lt2 lt3 lt4
    cases AL
    · obtain rfl : Q = (x1, x2, x3, 5) := HQ.out
      dsimp only
      obtain ⟨fA, ya0, ya1, ya2, ya3, ya4⟩ := st_keyd (pc := pc) O2 M2 r3 r4 T2 (by omega) (Or.inl rfl)
      obtain ⟨fB, yb0, yb1, yb2, yb3, yb4⟩ := st_keyd (pc := pc) O2 M2 r3 r4 T2 (by omega) (Or.inr rfl)
      simp only [setC, setM] at fA ya0 ya1 ya2 ya3 ya4 fB yb0 yb1 yb2 yb3 yb4
      have FA := hide fA
      have FB := hide fB
      obtain ⟨t1, t2, t3⟩ := r0.two'
      obtain ⟨s1, s2, s3, s4⟩ := r1.three
      obtain ⟨z1, z2, z3⟩ := r3.two'
      obtain ⟨z4, z5, z6, z7⟩ := r4.three
      clear fA fB
      go_wp2
      go_region
      all_goals
        go_wp2
        exact bodyPost_ret (v := .tuple #[.agg #[.int .i64 pc, .slice (some ⟨rb, 0, none⟩) 8 cp], .agg #[.slice (some ⟨g1, 0, none⟩) n1 c1, .slice (some ⟨g2, 0, none⟩) n2 c2, .slice (some ⟨g3, 0, none⟩) n3 c3], .int .i64 5]) (by first | (simp [results, Tryz.results86, go_sem, ya0, ya1, ya2, ya3, ya4]; done) | (simp [results, Tryz.results86, go_sem, yb0, yb1, yb2, yb3, yb4]; done)) rfl
          ⟨_, _, _, _, _, _, _, _, _, rfl, by first | exact FA.out.1 | exact FB.out.1, by first | exact FA.out.2.1 | exact FB.out.2.1, by first | exact FA.out.2.2 | exact FB.out.2.2⟩

    · obtain rfl : Q = WR := HQ.out
      obtain ⟨y1, y2, y3, f⟩ := Q
      dsimp only at HWW ⊢
      obtain ⟨t1, t2, t3⟩ := r0.two'
      obtain ⟨s1, s2, s3, s4⟩ := r1.three
      obtain ⟨l1, l2, l3, l4, l5⟩ := r2.four'
      go_wp2_with fail
      have lv4 := r4.lt
      have lvr := World.block_lt_of_cell? w1 _ cd1
      dsimp only at lvr
      have nv0 : w.heap.size ≠ w1.heap.size := by omega
      have nv1 : w.heap.size + 1 ≠ w1.heap.size := by omega
      have nv2 : w.heap.size + 1 + 1 ≠ w1.heap.size := by omega
      have nv3 : w.heap.size + 1 + 1 + 1 ≠ w1.heap.size := by omega
      have nv4 : w.heap.size + 1 + 1 + 1 + 1 ≠ w1.heap.size := by omega
      have nv5 : rb ≠ w1.heap.size := by omega
      have mv0 := nv0.symm
      have mv1 := nv1.symm
      have mv2 := nv2.symm
      have mv3 := nv3.symm
      have mv4 := nv4.symm
      have mv5 := nv5.symm
      have lv0 := r0.lt
      have lv1 := r1.lt
      have lv2 := r2.lt
      have hA : Below w1.heap.size w1 (w1.alloc (.cells #[.slice none 0 0, .slice none 0 0, .slice none 0 0] 38)) := (Below.refl _ _).alloc (Nat.le_refl _) _
      have kN := Blk.new w1 #[.slice none 0 0, .slice none 0 0, .slice none 0 0] 38
      have N1 := M2.1.bs.below hA
      have N2 := M2.2.1.bs.below hA
      have N3 := M2.2.2.1.bs.below hA
      go_region_held3 (fun w' => w'.cell? ⟨w.heap.size, 1, none⟩ = some (.slice (some ⟨rb, 0, none⟩) 8 cp) ∧ w'.cell? ⟨w.heap.size + 1, 0, none⟩ = some (.slice (some ⟨g1, 0, none⟩) n1 c1) ∧ w'.cell? ⟨w.heap.size + 1, 1, none⟩ = some (.slice (some ⟨g2, 0, none⟩) n2 c2) ∧ w'.cell? ⟨w.heap.size + 1, 2, none⟩ = some (.slice (some ⟨g3, 0, none⟩) n3 c3) ∧ w'.cell? ⟨w.heap.size + 1 + 1, 1, none⟩ = some (.int .i64 d) ∧ w'.cell? ⟨rb, d.toNat, none⟩ = some (.int .i64 yd)) (go_keep)
        (first
          | (go_at_call 166; refine (HWW.out _ (by exact M2.1.bs) (by exact M2.2.1.bs) (by exact M2.2.2.1.bs)).mono ?_; rintro e w2 ⟨e1, m1, h1, e2, m2, h2, e3, m3, h3, rfl, MW, hb2⟩; (try replace hb2 := undrew hb2); have isA := True.intro; have MW' : Own3 w2 w1.heap.size (.slice e1 m1 h1) (.slice e2 m2 h2) (.slice e3 m3 h3) y1 y2 y3 := MW; obtain ⟨t1, t2, t3⟩ := (r0.below hb2).two'; obtain ⟨s1, s2, s3, s4⟩ := (r1.below hb2).three; obtain ⟨l1, l2, l3, l4, l5⟩ := (r2.below hb2).four'; have cd2 := (hb2.cell (World.block_lt_of_cell? w1 _ cd1)).trans cd1; have lu0 := (r0.below hb2).lt; have lu1 := (r1.below hb2).lt; have lu2 := (r2.below hb2).lt; have lur := World.block_lt_of_cell? w2 _ cd2; dsimp only at lur)
          | (go_at_call 166; refine (HWW.out _ (by exact N1) (by exact N2) (by exact N3)).mono ?_; rintro e w2 ⟨e1, m1, h1, e2, m2, h2, e3, m3, h3, rfl, MW, hb2⟩; (try replace hb2 := undrew hb2); have isB := True.intro; have MW' : Own3 w2 (w1.heap.size + 1) (.slice e1 m1 h1) (.slice e2 m2 h2) (.slice e3 m3 h3) y1 y2 y3 := (by simpa only [heap_drew, World.size_alloc] using MW); have kN2 := kN.below hb2; obtain ⟨v1, v2, v3, v4⟩ := kN2.three; replace hb2 := hA.trans (hb2.mono hA.size); obtain ⟨t1, t2, t3⟩ := (r0.below hb2).two'; obtain ⟨s1, s2, s3, s4⟩ := (r1.below hb2).three; obtain ⟨l1, l2, l3, l4, l5⟩ := (r2.below hb2).four'; have cd2 := (hb2.cell (World.block_lt_of_cell? w1 _ cd1)).trans cd1; have lu0 := (r0.below hb2).lt; have lu1 := (r1.below hb2).lt; have lu2 := (r2.below hb2).lt; have lur := World.block_lt_of_cell? w2 _ cd2; dsimp only at lur))
      all_goals
        clear t1 t2 t3 s1 s2 s3 s4 l1 l2 l3 l4 l5
        replace r0 := r0.below hb2
        replace r3 := r3.below hb2
        replace r4 := r4.below hb2
        replace O2 := O2.below hb2
        replace T2 := T2.trans (turn_below hb2)
        have hz2 := hb2.size
        clear M2 N1 N2 N3 r1 r2 hb2 MW cd1 cd2
        first
        | (clear isA
           have kX := Blk.new w2 #[.slice e1 m1 h1, .slice e2 m2 h2, .slice e3 m3 h3] 38
           have hA2 : Below w2.heap.size w2 (w2.alloc (.cells #[.slice e1 m1 h1, .slice e2 m2 h2, .slice e3 m3 h3] 38)) := (Below.refl _ _).alloc (Nat.le_refl _) _
           have M2 := own3_mono (own3_below MW' hA2) (show base ≤ w1.heap.size by omega)
           replace r0 := r0.below hA2
           replace r3 := r3.below hA2
           replace r4 := r4.below hA2
           replace O2 := O2.below hA2
           replace T2 := T2.trans (turn_below hA2)
           clear MW' hA2
           obtain ⟨fA, ya0, ya1, ya2, ya3, ya4⟩ := st_keyd (pc := pc) O2 M2 r3 r4 T2 (by omega) (Or.inl rfl)
           obtain ⟨fB, yb0, yb1, yb2, yb3, yb4⟩ := st_keyd (pc := pc) O2 M2 r3 r4 T2 (by omega) (Or.inr rfl)
           simp only [setC, setM] at fA ya0 ya1 ya2 ya3 ya4 fB yb0 yb1 yb2 yb3 yb4
           have FA := hide fA
           have FB := hide fB
           obtain ⟨t1, t2, t3⟩ := r0.two'
           obtain ⟨s1, s2, s3, s4⟩ := kX.three
           obtain ⟨z1, z2, z3⟩ := r3.two'
           obtain ⟨z4, z5, z6, z7⟩ := r4.three
           clear fA fB
           go_wp2
           go_region
           all_goals
             go_wp2
             exact bodyPost_ret (v := .tuple #[.agg #[.int .i64 pc, .slice (some ⟨rb, 0, none⟩) 8 cp], .agg #[.slice e1 m1 h1, .slice e2 m2 h2, .slice e3 m3 h3], .int .i64 f]) (by first | (simp [results, Tryz.results86, go_sem, ya0, ya1, ya2, ya3, ya4]; done) | (simp [results, Tryz.results86, go_sem, yb0, yb1, yb2, yb3, yb4]; done)) rfl
               ⟨_, _, _, _, _, _, _, _, _, rfl, by first | exact FA.out.1 | exact FB.out.1, by first | exact FA.out.2.1 | exact FB.out.2.1, by first | exact FA.out.2.2 | exact FB.out.2.2⟩)
        | (clear isB
           have kX : Blk (((w2.setCell ⟨w1.heap.size, 0, none⟩ (.slice e1 m1 h1)).setCell ⟨w1.heap.size, 1, none⟩ (.slice e2 m2 h2)).setCell ⟨w1.heap.size, 2, none⟩ (.slice e3 m3 h3)) w1.heap.size #[.slice e1 m1 h1, .slice e2 m2 h2, .slice e3 m3 h3] 38 := by
             have := ((kN2.set 0 (.slice e1 m1 h1)).set 1 (.slice e2 m2 h2)).set 2 (.slice e3 m3 h3)
             simpa using this
           have M2 := own3_mono (own3_other (own3_other (own3_other MW' ⟨w1.heap.size, 0, none⟩ (.slice e1 m1 h1) (by dsimp only; omega)) ⟨w1.heap.size, 1, none⟩ (.slice e2 m2 h2) (by dsimp only; omega)) ⟨w1.heap.size, 2, none⟩ (.slice e3 m3 h3) (by dsimp only; omega)) (show base ≤ w1.heap.size + 1 by omega)
           have tt : Turn (fun j => j = w1.heap.size) w2 (((w2.setCell ⟨w1.heap.size, 0, none⟩ (.slice e1 m1 h1)).setCell ⟨w1.heap.size, 1, none⟩ (.slice e2 m2 h2)).setCell ⟨w1.heap.size, 2, none⟩ (.slice e3 m3 h3)) := ((turn_setg _ _ _ _).trans (turn_setg _ _ _ _)).trans (turn_setg _ _ _ _)
           replace r0 := turn_blk tt r0 (fun e => nv0 e)
           replace r3 := turn_blk tt r3 (fun e => nv3 e)
           replace r4 := turn_blk tt r4 (fun e => nv4 e)
           replace O2 := turn_oi tt O2 (fun k hk e => by have e1 : some rb = some k := hk; injection e1 with e1; have e2 : k = w1.heap.size := e; omega)
           have T3 : Turn (fun j => (Value.slice (some ⟨rb, 0, none⟩) 8 cp).ownBlock = some j) w (((w2.setCell ⟨w1.heap.size, 0, none⟩ (.slice e1 m1 h1)).setCell ⟨w1.heap.size, 1, none⟩ (.slice e2 m2 h2)).setCell ⟨w1.heap.size, 2, none⟩ (.slice e3 m3 h3)) := ⟨tt.os.trans T2.os, tt.tape.trans T2.tape, tt.output.trans T2.output, Nat.le_trans T2.size tt.size, fun k hk hs => (tt.block k (by omega) (fun e => by have e2 : k = w1.heap.size := e; omega)).trans (T2.block k hk hs)⟩
           clear T2 tt kN2 MW'
           have T2 := T3
           clear T3
           obtain ⟨fA, ya0, ya1, ya2, ya3, ya4⟩ := st_keyd (pc := pc) O2 M2 r3 r4 T2 (by omega) (Or.inl rfl)
           obtain ⟨fB, yb0, yb1, yb2, yb3, yb4⟩ := st_keyd (pc := pc) O2 M2 r3 r4 T2 (by omega) (Or.inr rfl)
           simp only [setC, setM] at fA ya0 ya1 ya2 ya3 ya4 fB yb0 yb1 yb2 yb3 yb4
           have FA := hide fA
           have FB := hide fB
           obtain ⟨t1, t2, t3⟩ := r0.two'
           obtain ⟨s1, s2, s3, s4⟩ := kX.three
           obtain ⟨z1, z2, z3⟩ := r3.two'
           obtain ⟨z4, z5, z6, z7⟩ := r4.three
           clear fA fB
           go_wp2
           go_region
           all_goals
             go_wp2
             exact bodyPost_ret (v := .tuple #[.agg #[.int .i64 pc, .slice (some ⟨rb, 0, none⟩) 8 cp], .agg #[.slice e1 m1 h1, .slice e2 m2 h2, .slice e3 m3 h3], .int .i64 f]) (by first | (simp [results, Tryz.results86, go_sem, ya0, ya1, ya2, ya3, ya4]; done) | (simp [results, Tryz.results86, go_sem, yb0, yb1, yb2, yb3, yb4]; done)) rfl
               ⟨_, _, _, _, _, _, _, _, _, rfl, by first | exact FA.out.1 | exact FB.out.1, by first | exact FA.out.2.1 | exact FB.out.2.1, by first | exact FA.out.2.2 | exact FB.out.2.2⟩)
set_option maxHeartbeats 2000000 in
theorem l3Memory_19 (d a i : Int) (pc : Int) (rb cp : Nat) (rg : List Int) (g1 g2 g3 n1 c1 n2 c2 n3 c3 : Nat) (x1 x2 x3 : List Int) (ra : Option Addr) (rn rc : Nat) (rs : List Rg) (base : Nat) (w : World) (ho : OI w base (.slice (some ⟨rb, 0, none⟩) 8 cp) rg) (hm : Own3 w base (.slice (some ⟨g1, 0, none⟩) n1 c1) (.slice (some ⟨g2, 0, none⟩) n2 c2) (.slice (some ⟨g3, 0, none⟩) n3 c3) x1 x2 x3) (hrs : RS w ra rn rc rs) (hw : ∀ z ∈ rg, 0 ≤ z ∧ z ≤ 4294967295) (hn : n1 + n2 + n3 ≤ 1048576) (hb : base ≤ w.heap.size) (d0 : 0 ≤ d) (d1 : d < 8) (a0 : 0 ≤ a) (a7 : a < 8) (i0 : 0 ≤ i) (i1 : i ≤ 65535) :
    Calls Tryz.prog 86 #[.agg #[.int .i64 pc, .slice (some ⟨rb, 0, none⟩) 8 cp], .agg #[.slice (some ⟨g1, 0, none⟩) n1 c1, .slice (some ⟨g2, 0, none⟩) n2 c2, .slice (some ⟨g3, 0, none⟩) n3 c3], .slice ra rn rc, .agg #[.int .i64 19, .int .i64 d, .int .i64 a, .int .i64 i]] w (MmPost w base pc (.slice (some ⟨rb, 0, none⟩) 8 cp) (swr n1 n2 n3 x1 x2 x3 rs rn (atOf rg a i) 4 (rg.getD d.toNat 0)).2.2.2 rg (swr n1 n2 n3 x1 x2 x3 rs rn (atOf rg a i) 4 (rg.getD d.toNat 0)).1 (swr n1 n2 n3 x1 x2 x3 rs rn (atOf rg a i) 4 (rg.getD d.toNat 0)).2.1 (swr n1 n2 n3 x1 x2 x3 rs rn (atOf rg a i) 4 (rg.getD d.toNat 0)).2.2.1) := by
  obtain ⟨Q, hQ⟩ : ∃ Q, Q = swr n1 n2 n3 x1 x2 x3 rs rn (atOf rg a i) 4 (rg.getD d.toNat 0) := ⟨_, rfl⟩
  rw [← hQ]
  unfold swr at hQ
  obtain ⟨W, hW⟩ : ∃ W, W = (((((w.alloc (.cells #[.int .i64 pc, .slice (some ⟨rb, 0, none⟩) 8 cp] 58)).alloc (.cells #[.slice (some ⟨g1, 0, none⟩) n1 c1, .slice (some ⟨g2, 0, none⟩) n2 c2, .slice (some ⟨g3, 0, none⟩) n3 c3] 38)).alloc (.cells #[.int .i64 19, .int .i64 d, .int .i64 a, .int .i64 i] 124)).alloc (.cells #[.int .i64 0, .slice none 0 0] 58)).alloc (.cells #[.slice none 0 0, .slice none 0 0, .slice none 0 0] 38)) := ⟨_, rfl⟩
  have hB0 : Below w.heap.size w W := by rw [hW]; exact (((((Below.refl _ _).alloc (Nat.le_refl _) _).alloc (by simp) _).alloc (by simp; omega) _).alloc (by simp; omega) _).alloc (by simp; omega) _
  have k0 : Blk W (w.heap.size) #[.int .i64 pc, .slice (some ⟨rb, 0, none⟩) 8 cp] 58 := by
    rw [hW]
    have := ((((Blk.new w #[.int .i64 pc, .slice (some ⟨rb, 0, none⟩) 8 cp] 58).alloc (.cells #[.slice (some ⟨g1, 0, none⟩) n1 c1, .slice (some ⟨g2, 0, none⟩) n2 c2, .slice (some ⟨g3, 0, none⟩) n3 c3] 38)).alloc (.cells #[.int .i64 19, .int .i64 d, .int .i64 a, .int .i64 i] 124)).alloc (.cells #[.int .i64 0, .slice none 0 0] 58)).alloc (.cells #[.slice none 0 0, .slice none 0 0, .slice none 0 0] 38)
    simpa only [World.size_alloc] using this
  have k1 : Blk W (w.heap.size + 1) #[.slice (some ⟨g1, 0, none⟩) n1 c1, .slice (some ⟨g2, 0, none⟩) n2 c2, .slice (some ⟨g3, 0, none⟩) n3 c3] 38 := by
    rw [hW]
    have := (((Blk.new (w.alloc (.cells #[.int .i64 pc, .slice (some ⟨rb, 0, none⟩) 8 cp] 58)) #[.slice (some ⟨g1, 0, none⟩) n1 c1, .slice (some ⟨g2, 0, none⟩) n2 c2, .slice (some ⟨g3, 0, none⟩) n3 c3] 38).alloc (.cells #[.int .i64 19, .int .i64 d, .int .i64 a, .int .i64 i] 124)).alloc (.cells #[.int .i64 0, .slice none 0 0] 58)).alloc (.cells #[.slice none 0 0, .slice none 0 0, .slice none 0 0] 38)
    simpa only [World.size_alloc] using this
  have k2 : Blk W (w.heap.size + 1 + 1) #[.int .i64 19, .int .i64 d, .int .i64 a, .int .i64 i] 124 := by
    rw [hW]
    have := ((Blk.new ((w.alloc (.cells #[.int .i64 pc, .slice (some ⟨rb, 0, none⟩) 8 cp] 58)).alloc (.cells #[.slice (some ⟨g1, 0, none⟩) n1 c1, .slice (some ⟨g2, 0, none⟩) n2 c2, .slice (some ⟨g3, 0, none⟩) n3 c3] 38)) #[.int .i64 19, .int .i64 d, .int .i64 a, .int .i64 i] 124).alloc (.cells #[.int .i64 0, .slice none 0 0] 58)).alloc (.cells #[.slice none 0 0, .slice none 0 0, .slice none 0 0] 38)
    simpa only [World.size_alloc] using this
  have k3 : Blk W (w.heap.size + 1 + 1 + 1) #[.int .i64 0, .slice none 0 0] 58 := by
    rw [hW]
    have := (Blk.new (((w.alloc (.cells #[.int .i64 pc, .slice (some ⟨rb, 0, none⟩) 8 cp] 58)).alloc (.cells #[.slice (some ⟨g1, 0, none⟩) n1 c1, .slice (some ⟨g2, 0, none⟩) n2 c2, .slice (some ⟨g3, 0, none⟩) n3 c3] 38)).alloc (.cells #[.int .i64 19, .int .i64 d, .int .i64 a, .int .i64 i] 124)) #[.int .i64 0, .slice none 0 0] 58).alloc (.cells #[.slice none 0 0, .slice none 0 0, .slice none 0 0] 38)
    simpa only [World.size_alloc] using this
  have k4 : Blk W (w.heap.size + 1 + 1 + 1 + 1) #[.slice none 0 0, .slice none 0 0, .slice none 0 0] 38 := by
    rw [hW]
    have := Blk.new ((((w.alloc (.cells #[.int .i64 pc, .slice (some ⟨rb, 0, none⟩) 8 cp] 58)).alloc (.cells #[.slice (some ⟨g1, 0, none⟩) n1 c1, .slice (some ⟨g2, 0, none⟩) n2 c2, .slice (some ⟨g3, 0, none⟩) n3 c3] 38)).alloc (.cells #[.int .i64 19, .int .i64 d, .int .i64 a, .int .i64 i] 124)).alloc (.cells #[.int .i64 0, .slice none 0 0] 58)) #[.slice none 0 0, .slice none 0 0, .slice none 0 0] 38
    simpa only [World.size_alloc] using this
  have O0 := ho.below hB0
  have M0 := own3_below hm hB0
  have R0 := hrs.below hB0
  have hl := ho.is.1
  have hza := hw (rg.getD a.toNat 0) (by rw [List.getD_eq_getElem?_getD, List.getElem?_eq_getElem (show a.toNat < rg.length by omega)]; exact List.getElem_mem _)
  have hzd := hw (rg.getD d.toNat 0) (by rw [List.getD_eq_getElem?_getD, List.getElem?_eq_getElem (show d.toNat < rg.length by omega)]; exact List.getElem_mem _)
  have ca := O0.is.at a.toNat (by omega)
  simp only [Nat.zero_add] at ca
  obtain ⟨za0, za1⟩ := hza
  obtain ⟨u0, u1⟩ := atOf_range rg a i
  obtain ⟨xi0, xi1⟩ := wide_range i i0 i1
  have HAT := hide (show (rg.getD a.toNat 0 + wide i) % 4294967296 = atOf rg a i from rfl)
  have HWD := hide (fun w => l3Wide_any i w i0 i1)
  have hrr := rd_range n1 n2 n3 x1 x2 (atOf rg a i) 4 hm.1.2 hm.2.1.2
  generalize atOf rg a i = z at *
  have cd := O0.is.at d.toNat (by omega)
  simp only [Nat.zero_add] at cd
  generalize rg.getD a.toNat 0 = y at *
  generalize rg.getD d.toNat 0 = yd at *
  generalize wide i = x at *
  have HWR := hide (show IntKind.i64.wrap (y + x) = y + x by rw [IntKind.wrap_i64]; omega)
  have HWO := hide (fun w => l1Word_any (y + x) w ⟨by omega, by omega⟩)
  rw [HAT.out] at HWO
  have HAL := hide (fun w h => sAllowed_any ra rn rc rs z 4 2 w h ⟨by omega, by omega⟩)
  have ne0 : w.heap.size ≠ w.heap.size + 1 := by omega
  have ne1 : w.heap.size ≠ w.heap.size + 1 + 1 := by omega
  have ne2 : w.heap.size ≠ w.heap.size + 1 + 1 + 1 := by omega
  have ne3 : w.heap.size ≠ w.heap.size + 1 + 1 + 1 + 1 := by omega
  have ne4 : w.heap.size + 1 ≠ w.heap.size := by omega
  have ne5 : w.heap.size + 1 ≠ w.heap.size + 1 + 1 := by omega
  have ne6 : w.heap.size + 1 ≠ w.heap.size + 1 + 1 + 1 := by omega
  have ne7 : w.heap.size + 1 ≠ w.heap.size + 1 + 1 + 1 + 1 := by omega
  have ne8 : w.heap.size + 1 + 1 ≠ w.heap.size := by omega
  have ne9 : w.heap.size + 1 + 1 ≠ w.heap.size + 1 := by omega
  have ne10 : w.heap.size + 1 + 1 ≠ w.heap.size + 1 + 1 + 1 := by omega
  have ne11 : w.heap.size + 1 + 1 ≠ w.heap.size + 1 + 1 + 1 + 1 := by omega
  have ne12 : w.heap.size + 1 + 1 + 1 ≠ w.heap.size := by omega
  have ne13 : w.heap.size + 1 + 1 + 1 ≠ w.heap.size + 1 := by omega
  have ne14 : w.heap.size + 1 + 1 + 1 ≠ w.heap.size + 1 + 1 := by omega
  have ne15 : w.heap.size + 1 + 1 + 1 ≠ w.heap.size + 1 + 1 + 1 + 1 := by omega
  have ne16 : w.heap.size + 1 + 1 + 1 + 1 ≠ w.heap.size := by omega
  have ne17 : w.heap.size + 1 + 1 + 1 + 1 ≠ w.heap.size + 1 := by omega
  have ne18 : w.heap.size + 1 + 1 + 1 + 1 ≠ w.heap.size + 1 + 1 := by omega
  have ne19 : w.heap.size + 1 + 1 + 1 + 1 ≠ w.heap.size + 1 + 1 + 1 := by omega
  have HWW := hide (fun w h1 h2 h3 => sWrite_any g1 0 g2 0 g3 0 n1 c1 n2 c2 n3 c3 x1 x2 x3 z 4 yd w h1 h2 h3 hn ⟨by omega, by omega⟩ (by omega))
  generalize alw rs rn z 4 2 = AL at *
  generalize wrm n1 n2 n3 x1 x2 x3 z 4 yd = WR at *
  have HQ := hide hQ
  clear hQ
  have lt0 := k0.lt
  have lt1 := k1.lt
  have lt2 := k2.lt
  have lt3 := k3.lt
  have lt4 := k4.lt
  obtain ⟨e1, e2, e3⟩ := k0.two'
  obtain ⟨f1, f2, f3, f4⟩ := k1.three
  obtain ⟨j1, j2, j3, j4, j5⟩ := k2.four'
  go_enter Tryz.func86, Tryz.ntmps86
  go_wp2_with fail
  rw [← hW]
  clear hW
  go_region_held3 (fun w' => w'.cell? ⟨w.heap.size, 1, none⟩ = some (.slice (some ⟨rb, 0, none⟩) 8 cp) ∧ w'.cell? ⟨w.heap.size + 1 + 1, 2, none⟩ = some (.int .i64 a) ∧ w'.cell? ⟨w.heap.size + 1 + 1, 3, none⟩ = some (.int .i64 i) ∧ w'.cell? ⟨rb, a.toNat, none⟩ = some (.int .i64 y)) (go_keep)
    (first
      | (go_at_call 89; refine (HWD.out _).mono ?_; rintro e w1 ⟨rfl, rfl⟩)
      | (go_at_call 72; rw [HWR.out]; refine (HWO.out _).mono ?_; rintro e w1 ⟨rfl, rfl⟩))
  all_goals
    have KX := Blk.new W #[.int .i64 1, .int .i64 2, .int .i64 4] 3
    go_wp2_with fail
    have hV : Below W.heap.size W (W.alloc (.cells #[.int .i64 1, .int .i64 2, .int .i64 4] 3)).drew := ((Below.refl _ _).alloc (Nat.le_refl _) _).drew
    refine (HAL.out _ (by exact R0.below hV)).mono ?_
    rintro e w1 ⟨rfl, hb1⟩
    have b1 : Below W.heap.size W w1 := hV.trans (hb1.mono hV.size)
    have r0 := k0.below b1
    have r1 := k1.below b1
    have r2 := k2.below b1
    have r3 := k3.below b1
    have r4 := k4.below b1
    have M2 := own3_below M0 b1
    have O2 := O0.below b1
    have T2 : Turn (fun j => (Value.slice (some ⟨rb, 0, none⟩) 8 cp).ownBlock = some j) w w1 := turn_below (hB0.trans (b1.mono hB0.size))
    have cd1 : w1.cell? ⟨rb, d.toNat, none⟩ = some (.int .i64 yd) := (b1.cell (World.block_lt_of_cell? W _ cd)).trans cd
    have hw1 := b1.size
    have hw0 := hB0.size
    clear hb1 hV b1 k0 k1 k2 k3 k4 M0 O0 hB0 e1 e2 e3 f1 f2 f3 f4 j1 j2 j3 j4 j5 ca cd KX R0 lt0 lt1 lt2 lt3 lt4
    cases AL
    · obtain rfl : Q = (x1, x2, x3, 5) := HQ.out
      dsimp only
      obtain ⟨fA, ya0, ya1, ya2, ya3, ya4⟩ := st_keyd (pc := pc) O2 M2 r3 r4 T2 (by omega) (Or.inl rfl)
      obtain ⟨fB, yb0, yb1, yb2, yb3, yb4⟩ := st_keyd (pc := pc) O2 M2 r3 r4 T2 (by omega) (Or.inr rfl)
      simp only [setC, setM] at fA ya0 ya1 ya2 ya3 ya4 fB yb0 yb1 yb2 yb3 yb4
      have FA := hide fA
      have FB := hide fB
      obtain ⟨t1, t2, t3⟩ := r0.two'
      obtain ⟨s1, s2, s3, s4⟩ := r1.three
      obtain ⟨z1, z2, z3⟩ := r3.two'
      obtain ⟨z4, z5, z6, z7⟩ := r4.three
      clear fA fB
      go_wp2
      go_region
      all_goals
        go_wp2
        exact bodyPost_ret (v := .tuple #[.agg #[.int .i64 pc, .slice (some ⟨rb, 0, none⟩) 8 cp], .agg #[.slice (some ⟨g1, 0, none⟩) n1 c1, .slice (some ⟨g2, 0, none⟩) n2 c2, .slice (some ⟨g3, 0, none⟩) n3 c3], .int .i64 5]) (by first | (simp [results, Tryz.results86, go_sem, ya0, ya1, ya2, ya3, ya4]; done) | (simp [results, Tryz.results86, go_sem, yb0, yb1, yb2, yb3, yb4]; done)) rfl
          ⟨_, _, _, _, _, _, _, _, _, rfl, by first | exact FA.out.1 | exact FB.out.1, by first | exact FA.out.2.1 | exact FB.out.2.1, by first | exact FA.out.2.2 | exact FB.out.2.2⟩

    · obtain rfl : Q = WR := HQ.out
      obtain ⟨y1, y2, y3, f⟩ := Q
      dsimp only at HWW ⊢
      obtain ⟨t1, t2, t3⟩ := r0.two'
      obtain ⟨s1, s2, s3, s4⟩ := r1.three
      obtain ⟨l1, l2, l3, l4, l5⟩ := r2.four'
      go_wp2_with fail
      have lv4 := r4.lt
      have lvr := World.block_lt_of_cell? w1 _ cd1
      dsimp only at lvr
      have nv0 : w.heap.size ≠ w1.heap.size := by omega
      have nv1 : w.heap.size + 1 ≠ w1.heap.size := by omega
      have nv2 : w.heap.size + 1 + 1 ≠ w1.heap.size := by omega
      have nv3 : w.heap.size + 1 + 1 + 1 ≠ w1.heap.size := by omega
      have nv4 : w.heap.size + 1 + 1 + 1 + 1 ≠ w1.heap.size := by omega
      have nv5 : rb ≠ w1.heap.size := by omega
      have mv0 := nv0.symm
      have mv1 := nv1.symm
      have mv2 := nv2.symm
      have mv3 := nv3.symm
      have mv4 := nv4.symm
      have mv5 := nv5.symm
      have lv0 := r0.lt
      have lv1 := r1.lt
      have lv2 := r2.lt
      have hA : Below w1.heap.size w1 (w1.alloc (.cells #[.slice none 0 0, .slice none 0 0, .slice none 0 0] 38)) := (Below.refl _ _).alloc (Nat.le_refl _) _
      have kN := Blk.new w1 #[.slice none 0 0, .slice none 0 0, .slice none 0 0] 38
      have N1 := M2.1.bs.below hA
      have N2 := M2.2.1.bs.below hA
      have N3 := M2.2.2.1.bs.below hA
      go_region_held3 (fun w' => w'.cell? ⟨w.heap.size, 1, none⟩ = some (.slice (some ⟨rb, 0, none⟩) 8 cp) ∧ w'.cell? ⟨w.heap.size + 1, 0, none⟩ = some (.slice (some ⟨g1, 0, none⟩) n1 c1) ∧ w'.cell? ⟨w.heap.size + 1, 1, none⟩ = some (.slice (some ⟨g2, 0, none⟩) n2 c2) ∧ w'.cell? ⟨w.heap.size + 1, 2, none⟩ = some (.slice (some ⟨g3, 0, none⟩) n3 c3) ∧ w'.cell? ⟨w.heap.size + 1 + 1, 1, none⟩ = some (.int .i64 d) ∧ w'.cell? ⟨rb, d.toNat, none⟩ = some (.int .i64 yd)) (go_keep)
        (first
          | (go_at_call 166; refine (HWW.out _ (by exact M2.1.bs) (by exact M2.2.1.bs) (by exact M2.2.2.1.bs)).mono ?_; rintro e w2 ⟨e1, m1, h1, e2, m2, h2, e3, m3, h3, rfl, MW, hb2⟩; (try replace hb2 := undrew hb2); have isA := True.intro; have MW' : Own3 w2 w1.heap.size (.slice e1 m1 h1) (.slice e2 m2 h2) (.slice e3 m3 h3) y1 y2 y3 := MW; obtain ⟨t1, t2, t3⟩ := (r0.below hb2).two'; obtain ⟨s1, s2, s3, s4⟩ := (r1.below hb2).three; obtain ⟨l1, l2, l3, l4, l5⟩ := (r2.below hb2).four'; have cd2 := (hb2.cell (World.block_lt_of_cell? w1 _ cd1)).trans cd1; have lu0 := (r0.below hb2).lt; have lu1 := (r1.below hb2).lt; have lu2 := (r2.below hb2).lt; have lur := World.block_lt_of_cell? w2 _ cd2; dsimp only at lur)
          | (go_at_call 166; refine (HWW.out _ (by exact N1) (by exact N2) (by exact N3)).mono ?_; rintro e w2 ⟨e1, m1, h1, e2, m2, h2, e3, m3, h3, rfl, MW, hb2⟩; (try replace hb2 := undrew hb2); have isB := True.intro; have MW' : Own3 w2 (w1.heap.size + 1) (.slice e1 m1 h1) (.slice e2 m2 h2) (.slice e3 m3 h3) y1 y2 y3 := (by simpa only [heap_drew, World.size_alloc] using MW); have kN2 := kN.below hb2; obtain ⟨v1, v2, v3, v4⟩ := kN2.three; replace hb2 := hA.trans (hb2.mono hA.size); obtain ⟨t1, t2, t3⟩ := (r0.below hb2).two'; obtain ⟨s1, s2, s3, s4⟩ := (r1.below hb2).three; obtain ⟨l1, l2, l3, l4, l5⟩ := (r2.below hb2).four'; have cd2 := (hb2.cell (World.block_lt_of_cell? w1 _ cd1)).trans cd1; have lu0 := (r0.below hb2).lt; have lu1 := (r1.below hb2).lt; have lu2 := (r2.below hb2).lt; have lur := World.block_lt_of_cell? w2 _ cd2; dsimp only at lur))
      all_goals
        clear t1 t2 t3 s1 s2 s3 s4 l1 l2 l3 l4 l5
        replace r0 := r0.below hb2
        replace r3 := r3.below hb2
        replace r4 := r4.below hb2
        replace O2 := O2.below hb2
        replace T2 := T2.trans (turn_below hb2)
        have hz2 := hb2.size
        clear M2 N1 N2 N3 r1 r2 hb2 MW cd1 cd2
        first
        | (clear isA
           have kX := Blk.new w2 #[.slice e1 m1 h1, .slice e2 m2 h2, .slice e3 m3 h3] 38
           have hA2 : Below w2.heap.size w2 (w2.alloc (.cells #[.slice e1 m1 h1, .slice e2 m2 h2, .slice e3 m3 h3] 38)) := (Below.refl _ _).alloc (Nat.le_refl _) _
           have M2 := own3_mono (own3_below MW' hA2) (show base ≤ w1.heap.size by omega)
           replace r0 := r0.below hA2
           replace r3 := r3.below hA2
           replace r4 := r4.below hA2
           replace O2 := O2.below hA2
           replace T2 := T2.trans (turn_below hA2)
           clear MW' hA2
           obtain ⟨fA, ya0, ya1, ya2, ya3, ya4⟩ := st_keyd (pc := pc) O2 M2 r3 r4 T2 (by omega) (Or.inl rfl)
           obtain ⟨fB, yb0, yb1, yb2, yb3, yb4⟩ := st_keyd (pc := pc) O2 M2 r3 r4 T2 (by omega) (Or.inr rfl)
           simp only [setC, setM] at fA ya0 ya1 ya2 ya3 ya4 fB yb0 yb1 yb2 yb3 yb4
           have FA := hide fA
           have FB := hide fB
           obtain ⟨t1, t2, t3⟩ := r0.two'
           obtain ⟨s1, s2, s3, s4⟩ := kX.three
           obtain ⟨z1, z2, z3⟩ := r3.two'
           obtain ⟨z4, z5, z6, z7⟩ := r4.three
           clear fA fB
           go_wp2
           go_region
           all_goals
             go_wp2
             exact bodyPost_ret (v := .tuple #[.agg #[.int .i64 pc, .slice (some ⟨rb, 0, none⟩) 8 cp], .agg #[.slice e1 m1 h1, .slice e2 m2 h2, .slice e3 m3 h3], .int .i64 f]) (by first | (simp [results, Tryz.results86, go_sem, ya0, ya1, ya2, ya3, ya4]; done) | (simp [results, Tryz.results86, go_sem, yb0, yb1, yb2, yb3, yb4]; done)) rfl
               ⟨_, _, _, _, _, _, _, _, _, rfl, by first | exact FA.out.1 | exact FB.out.1, by first | exact FA.out.2.1 | exact FB.out.2.1, by first | exact FA.out.2.2 | exact FB.out.2.2⟩)
        | (clear isB
           have kX : Blk (((w2.setCell ⟨w1.heap.size, 0, none⟩ (.slice e1 m1 h1)).setCell ⟨w1.heap.size, 1, none⟩ (.slice e2 m2 h2)).setCell ⟨w1.heap.size, 2, none⟩ (.slice e3 m3 h3)) w1.heap.size #[.slice e1 m1 h1, .slice e2 m2 h2, .slice e3 m3 h3] 38 := by
             have := ((kN2.set 0 (.slice e1 m1 h1)).set 1 (.slice e2 m2 h2)).set 2 (.slice e3 m3 h3)
             simpa using this
           have M2 := own3_mono (own3_other (own3_other (own3_other MW' ⟨w1.heap.size, 0, none⟩ (.slice e1 m1 h1) (by dsimp only; omega)) ⟨w1.heap.size, 1, none⟩ (.slice e2 m2 h2) (by dsimp only; omega)) ⟨w1.heap.size, 2, none⟩ (.slice e3 m3 h3) (by dsimp only; omega)) (show base ≤ w1.heap.size + 1 by omega)
           have tt : Turn (fun j => j = w1.heap.size) w2 (((w2.setCell ⟨w1.heap.size, 0, none⟩ (.slice e1 m1 h1)).setCell ⟨w1.heap.size, 1, none⟩ (.slice e2 m2 h2)).setCell ⟨w1.heap.size, 2, none⟩ (.slice e3 m3 h3)) := ((turn_setg _ _ _ _).trans (turn_setg _ _ _ _)).trans (turn_setg _ _ _ _)
           replace r0 := turn_blk tt r0 (fun e => nv0 e)
           replace r3 := turn_blk tt r3 (fun e => nv3 e)
           replace r4 := turn_blk tt r4 (fun e => nv4 e)
           replace O2 := turn_oi tt O2 (fun k hk e => by have e1 : some rb = some k := hk; injection e1 with e1; have e2 : k = w1.heap.size := e; omega)
           have T3 : Turn (fun j => (Value.slice (some ⟨rb, 0, none⟩) 8 cp).ownBlock = some j) w (((w2.setCell ⟨w1.heap.size, 0, none⟩ (.slice e1 m1 h1)).setCell ⟨w1.heap.size, 1, none⟩ (.slice e2 m2 h2)).setCell ⟨w1.heap.size, 2, none⟩ (.slice e3 m3 h3)) := ⟨tt.os.trans T2.os, tt.tape.trans T2.tape, tt.output.trans T2.output, Nat.le_trans T2.size tt.size, fun k hk hs => (tt.block k (by omega) (fun e => by have e2 : k = w1.heap.size := e; omega)).trans (T2.block k hk hs)⟩
           clear T2 tt kN2 MW'
           have T2 := T3
           clear T3
           obtain ⟨fA, ya0, ya1, ya2, ya3, ya4⟩ := st_keyd (pc := pc) O2 M2 r3 r4 T2 (by omega) (Or.inl rfl)
           obtain ⟨fB, yb0, yb1, yb2, yb3, yb4⟩ := st_keyd (pc := pc) O2 M2 r3 r4 T2 (by omega) (Or.inr rfl)
           simp only [setC, setM] at fA ya0 ya1 ya2 ya3 ya4 fB yb0 yb1 yb2 yb3 yb4
           have FA := hide fA
           have FB := hide fB
           obtain ⟨t1, t2, t3⟩ := r0.two'
           obtain ⟨s1, s2, s3, s4⟩ := kX.three
           obtain ⟨z1, z2, z3⟩ := r3.two'
           obtain ⟨z4, z5, z6, z7⟩ := r4.three
           clear fA fB
           go_wp2
           go_region
           all_goals
             go_wp2
             exact bodyPost_ret (v := .tuple #[.agg #[.int .i64 pc, .slice (some ⟨rb, 0, none⟩) 8 cp], .agg #[.slice e1 m1 h1, .slice e2 m2 h2, .slice e3 m3 h3], .int .i64 f]) (by first | (simp [results, Tryz.results86, go_sem, ya0, ya1, ya2, ya3, ya4]; done) | (simp [results, Tryz.results86, go_sem, yb0, yb1, yb2, yb3, yb4]; done)) rfl
               ⟨_, _, _, _, _, _, _, _, _, rfl, by first | exact FA.out.1 | exact FB.out.1, by first | exact FA.out.2.1 | exact FB.out.2.1, by first | exact FA.out.2.2 | exact FB.out.2.2⟩)
end Go.Proofs.YtngdgogjlpjjpadGreat
