import Derived.Test.YtaillnegkfagfacGreatJ42
import Derived.Test.YtaillnegkfagfacGreatJ43
import Derived.Test.YtaillnegkfagfacGreatJ45
import Derived.Test.YtaillnegkfagfacGreatJ46
import Derived.Test.YtaillnegkfagfacGreatJ47
import Derived.Test.YtaillnegkfagfacGreatJ48
import Derived.Test.YtaillnegkfagfacGreatJ49
import Derived.Test.YtaillnegkfagfacGreatJ50
import Derived.Test.YtaillnegkfagfacGreatJ51
import Derived.Test.YtaillnegkfagfacGreatJ07
import Derived.Test.YtaillnegkfagfacGreatJ35
import Derived.Test.YtaillnegkfagfacGreatJ36
import Derived.Test.YtaillnegkfagfacGreatJ40
namespace Go.Proofs.YtaillnegkfagfacGreat
open Go.RowKit
set_option linter.unusedVariables false
set_option linter.unusedSimpArgs false
set_option maxRecDepth 100000

theorem sStep_any (pc : Int) (cb co n cc : Nat) (zs : List Int) (b1 o1 b2 o2 b3 o3 n1 c1 n2 c2 n3 c3 : Nat) (x1 x2 x3 : List Int) (ra : Option Addr) (rn rc : Nat) (rs : List Rg) (w : World) (hc : IS w (some ⟨cb, co, none⟩) n cc zs) (h1 : BS w (some ⟨b1, o1, none⟩) n1 c1 x1) (h2 : BS w (some ⟨b2, o2, none⟩) n2 c2 x2) (h3 : BS w (some ⟨b3, o3, none⟩) n3 c3 x3) (hrs : RS w ra rn rc rs) (hcn : n ≤ 1048576) (hn : n1 + n2 + n3 ≤ 1048576) :
    Calls Tryz.prog 5 #[.agg #[.int .i64 pc, .slice (some ⟨cb, co, none⟩) n cc], .agg #[.slice (some ⟨b1, o1, none⟩) n1 c1, .slice (some ⟨b2, o2, none⟩) n2 c2, .slice (some ⟨b3, o3, none⟩) n3 c3], .slice ra rn rc] w (StPost w (stepF pc n zs n1 n2 n3 x1 x2 x3 rs rn)) := by
  unfold stepF
  cases hk : (cok pc n zs && mok n1 n2 n3)
  · rw [if_neg (by simp)]
    exact sStep_bad pc cb co n cc zs b1 o1 b2 o2 b3 o3 n1 c1 n2 c2 n3 c3 x1 x2 x3 ra rn rc rs w hc h1 h2 h3 hrs hcn hn hk
  · rw [if_pos rfl]
    obtain ⟨_, _, rfl, _⟩ := cok_parts (show cok pc n zs = true by simp at hk; exact hk.1)
    by_cases hf : fet pc n1 n2 n3 x1 x2 rs rn = 0
    · have hop := dOk_op (fet_ok hf)
      by_cases hM : 14 ≤ (rd n1 n2 n3 x1 x2 pc 4).1 / 67108864 ∧ (rd n1 n2 n3 x1 x2 pc 4).1 / 67108864 ≤ 19
      · exact sStep_mem pc cb co cc zs b1 o1 b2 o2 b3 o3 n1 c1 n2 c2 n3 c3 x1 x2 x3 ra rn rc rs w hc h1 h2 h3 hrs hn hk hf hM
      · by_cases hA : 2 ≤ (rd n1 n2 n3 x1 x2 pc 4).1 / 67108864 ∧ (rd n1 n2 n3 x1 x2 pc 4).1 / 67108864 ≤ 13
        · exact sStep_alu pc cb co cc zs b1 o1 b2 o2 b3 o3 n1 c1 n2 c2 n3 c3 x1 x2 x3 ra rn rc rs w hc h1 h2 h3 hrs hn hk hf hA
        · rcases (show (rd n1 n2 n3 x1 x2 pc 4).1 / 67108864 = 1 ∨ (rd n1 n2 n3 x1 x2 pc 4).1 / 67108864 = 20 ∨ (rd n1 n2 n3 x1 x2 pc 4).1 / 67108864 = 21 ∨ (rd n1 n2 n3 x1 x2 pc 4).1 / 67108864 = 22 ∨ (rd n1 n2 n3 x1 x2 pc 4).1 / 67108864 = 23 ∨ (rd n1 n2 n3 x1 x2 pc 4).1 / 67108864 = 24 ∨ (rd n1 n2 n3 x1 x2 pc 4).1 / 67108864 = 25 by omega) with ho | ho | ho | ho | ho | ho | ho
          · exact sStep_e1 pc cb co cc zs b1 o1 b2 o2 b3 o3 n1 c1 n2 c2 n3 c3 x1 x2 x3 ra rn rc rs w hc h1 h2 h3 hrs hn hk hf ho
          · exact sStep_e20 pc cb co cc zs b1 o1 b2 o2 b3 o3 n1 c1 n2 c2 n3 c3 x1 x2 x3 ra rn rc rs w hc h1 h2 h3 hrs hn hk hf ho
          · exact sStep_e21 pc cb co cc zs b1 o1 b2 o2 b3 o3 n1 c1 n2 c2 n3 c3 x1 x2 x3 ra rn rc rs w hc h1 h2 h3 hrs hn hk hf ho
          · exact sStep_e22 pc cb co cc zs b1 o1 b2 o2 b3 o3 n1 c1 n2 c2 n3 c3 x1 x2 x3 ra rn rc rs w hc h1 h2 h3 hrs hn hk hf ho
          · exact sStep_e23 pc cb co cc zs b1 o1 b2 o2 b3 o3 n1 c1 n2 c2 n3 c3 x1 x2 x3 ra rn rc rs w hc h1 h2 h3 hrs hn hk hf ho
          · exact sStep_e24 pc cb co cc zs b1 o1 b2 o2 b3 o3 n1 c1 n2 c2 n3 c3 x1 x2 x3 ra rn rc rs w hc h1 h2 h3 hrs hn hk hf ho
          · exact sStep_e25 pc cb co cc zs b1 o1 b2 o2 b3 o3 n1 c1 n2 c2 n3 c3 x1 x2 x3 ra rn rc rs w hc h1 h2 h3 hrs hn hk hf ho
    · exact sStep_flt pc cb co cc zs b1 o1 b2 o2 b3 o3 n1 c1 n2 c2 n3 c3 x1 x2 x3 ra rn rc rs w hc h1 h2 h3 hrs hn hk hf
end Go.Proofs.YtaillnegkfagfacGreat

namespace Go.Proofs.YtaillnegkfagfacGreat
open Go.RowKit
set_option linter.unusedVariables false

end Go.Proofs.YtaillnegkfagfacGreat

namespace Go.Proofs.YtaillnegkfagfacGreat
open Go.RowKit
set_option linter.unusedVariables false
set_option linter.unusedSimpArgs false
set_option maxRecDepth 100000

theorem take_eq_succ7 (xs ys : List Int) (k : Nat) (h : xs.take k = ys.take k) (hx : k < xs.length) (hy : k < ys.length) (he : xs.getD k 0 = ys.getD k 0) : xs.take (k + 1) = ys.take (k + 1) := by
  rw [List.take_succ_eq_append_getElem hx, List.take_succ_eq_append_getElem hy, h]
  simp [List.getD_eq_getElem?_getD, hx, hy] at he
  rw [he]

set_option maxHeartbeats 1000000 in
theorem l7Bytes_any (a a' : Option Addr) (n cap n' cap' : Nat) (xs ys : List Int) (w : World) (h : BS w a n cap xs) (h' : BS w a' n' cap' ys) :
    Calls Tryz.prog 35 #[.slice a n cap, .slice a' n' cap'] w fun e w' => e = .returned (.bool (decide (xs = ys))) ∧ Below w.heap.size w w' := by
  obtain ⟨hl, hmx, hr, hc, _⟩ := h
  obtain ⟨hl', hmx', hr', hc', _⟩ := h'
  unfold maxLen at hmx hmx'
  by_cases hn : n = n'
  · subst hn
    have hne : ((n : Int) != (n : Int)) = false := by simp
    by_cases hn0 : n = 0
    · subst hn0
      obtain rfl : xs = [] := List.eq_nil_of_length_eq_zero hl
      obtain rfl : ys = [] := List.eq_nil_of_length_eq_zero hl'
      clear hc hc'
      go_enter Tryz.func35, Tryz.ntmps35
      go_wp2
      go_loop [5] (fun i => i = .int .i64 0) (fun _ => 0)
      case atStart => rfl
      case round =>
        obtain rfl := hrel
        go_wp2
        go_ret
        exact ⟨rfl, Below.refl _ _⟩
    · obtain ⟨b, off, rfl, hd⟩ := hc hn0
      obtain ⟨b', off', rfl, hd'⟩ := hc' hn0
      clear hc hc'
      go_enter Tryz.func35, Tryz.ntmps35
      go_wp2
      go_loopw [5] (fun i wr => ∃ k : Nat, k ≤ n ∧ i = .int .i64 k ∧ xs.take k = ys.take k ∧ Below w.heap.size w wr) (fun i _ => n - (intOf i).toNat)
      case atStart => exact ⟨0, Nat.zero_le _, rfl, by simp, Below.refl _ _⟩
      case round =>
        obtain ⟨k, hk, rfl, hT, hB⟩ := hrel
        by_cases hlt : k < n
        · have hlt' : (k : Int) < (n : Int) := by omega
          have hck : wr.cell? ⟨b, off + k, none⟩ = some (.int .u8 (xs.getD k 0)) := (hB.cell (World.block_lt_of_cell? w _ (hd k hlt))).trans (hd k hlt)
          have hck' : wr.cell? ⟨b', off' + k, none⟩ = some (.int .u8 (ys.getD k 0)) := (hB.cell (World.block_lt_of_cell? w _ (hd' k hlt))).trans (hd' k hlt)
          by_cases he : xs.getD k 0 = ys.getD k 0
          · have hS := take_eq_succ7 xs ys k hT (by omega) (by omega) he
            have HS : Hid (xs.take (k + 1) = ys.take (k + 1)) := hS
            rw [he] at hck
            clear hS hT hd hd' he
            generalize ys.getD k 0 = z at *
            have hz : (z != z) = false := by simp
            go_wp2
            go_quiet (fail)
            go_wp2
            go_roundw
            case rel => exact ⟨k + 1, by omega, by go_num, HS.out, below_drewN hB _⟩
            case measure => simp [intOf]; omega
          · have hf : Hid (decide (xs = ys) = false) := by
              show _ = _
              simp
              intro e
              exact he (by rw [e])
            have hz : (xs.getD k 0 != ys.getD k 0) = true := by simpa using he
            clear hT hd hd' he
            generalize ys.getD k 0 = z at *
            generalize xs.getD k 0 = z' at *
            go_wp2
            go_quiet (fail)
            go_wp2
            go_ret
            exact ⟨ret_bool hf.out.symm, below_drewN hB _⟩
        · have hf : Hid (decide (xs = ys) = true) := by
            show _ = _
            simp
            rw [List.take_of_length_le (by omega), List.take_of_length_le (by omega)] at hT
            exact hT
          clear hT hd hd'
          go_wp2
          go_ret
          exact ⟨ret_bool hf.out.symm, hB⟩
  · have hf : Hid (decide (xs = ys) = false) := by
      show _ = _
      simp
      intro e
      rw [e] at hl
      omega
    have hne : ((n : Int) != (n' : Int)) = true := by simp; omega
    clear hc hc'
    go_enter Tryz.func35, Tryz.ntmps35
    go_wp2
    go_ret
    exact ⟨ret_bool hf.out.symm, Below.refl _ _⟩

set_option maxHeartbeats 1000000 in
theorem sameMem_same (a1 a2 a3 b1 b2 b3 : Option Addr) (n1 c1 n2 c2 n3 c3 d1 d2 d3 : Nat) (x1 x2 x3 : List Int) (w : World) (h1 : BS w a1 n1 c1 x1) (h2 : BS w a2 n2 c2 x2) (h3 : BS w a3 n3 c3 x3) (k1 : BS w b1 n1 d1 x1) (k2 : BS w b2 n2 d2 x2) (k3 : BS w b3 n3 d3 x3) :
    Calls Tryz.prog 7 #[.agg #[.slice a1 n1 c1, .slice a2 n2 c2, .slice a3 n3 c3], .agg #[.slice b1 n1 d1, .slice b2 n2 d2, .slice b3 n3 d3]] w fun e w' => e = .returned (.bool true) ∧ Below w.heap.size w w' := by
  have hB0 : Below w.heap.size w ((w.alloc (.cells #[.slice a1 n1 c1, .slice a2 n2 c2, .slice a3 n3 c3] 27)).alloc (.cells #[.slice b1 n1 d1, .slice b2 n2 d2, .slice b3 n3 d3] 27)) := ((Below.refl _ _).alloc (Nat.le_refl _) _).alloc (by simp) _
  have kb := (Blk.new w #[.slice a1 n1 c1, .slice a2 n2 c2, .slice a3 n3 c3] 27).alloc (.cells #[.slice b1 n1 d1, .slice b2 n2 d2, .slice b3 n3 d3] 27)
  have kc := Blk.new (w.alloc (.cells #[.slice a1 n1 c1, .slice a2 n2 c2, .slice a3 n3 c3] 27)) #[.slice b1 n1 d1, .slice b2 n2 d2, .slice b3 n3 d3] 27
  simp only [World.size_alloc] at kc
  go_enter Tryz.func7, Tryz.ntmps7
  go_wp2_with fail
  refine (l7Bytes_any _ _ _ _ _ _ x1 x1 _ (h1.below hB0) (k1.below hB0)).mono ?_
  rw [decide_eq_true rfl]
  rintro e w1 ⟨rfl, hb1⟩
  have hB1 := hB0.trans (hb1.mono (by simp; omega))
  have kb := kb.below hb1
  have kc := kc.below hb1
  obtain ⟨q1, q2, q3, q4⟩ := kb.three
  obtain ⟨p1, p2, p3, p4⟩ := kc.three
  clear hb1 hB0
  go_wp2_with fail
  refine (l7Bytes_any _ _ _ _ _ _ x2 x2 _ (h2.below hB1) (k2.below hB1)).mono ?_
  rw [decide_eq_true rfl]
  rintro e w2 ⟨rfl, hb2⟩
  have hB2 := hB1.trans (hb2.mono hB1.size)
  have kb := kb.below hb2
  have kc := kc.below hb2
  clear q1 q2 q3 q4 p1 p2 p3 p4 hb2 hB1
  obtain ⟨q1, q2, q3, q4⟩ := kb.three
  obtain ⟨p1, p2, p3, p4⟩ := kc.three
  go_wp2_with fail
  refine (l7Bytes_any _ _ _ _ _ _ x3 x3 _ (h3.below hB2) (k3.below hB2)).mono ?_
  rw [decide_eq_true rfl]
  rintro e w3 ⟨rfl, hb3⟩
  have hB3 := hB2.trans (hb3.mono hB2.size)
  go_wp2
  go_ret
  exact ⟨rfl, hB3⟩

theorem low_put4 (x : List Int) (k : Nat) (v : Int) (hk : k + 4 ≤ x.length) : low (((put x k v 4).drop k).take 4) = v % 4294967296 := by
  have e : ((put x k v 4).drop k).take 4 = [bt v 0, bt v 1, bt v 2, bt v 3] := by
    apply List.ext_getElem
    · simp [put_len]; omega
    · intro i h1 h2
      simp at h2
      rw [List.getElem_take, List.getElem_drop]
      have hi : i = 0 ∨ i = 1 ∨ i = 2 ∨ i = 3 := by omega
      rcases hi with rfl | rfl | rfl | rfl
      all_goals simp [put, List.getElem_set]
  rw [e]
  simp only [low]
  rw [bt0, bt1, bt2, bt3]
  omega

theorem low_put2 (x : List Int) (k : Nat) (v : Int) (hk : k + 2 ≤ x.length) : low (((put x k v 2).drop k).take 2) = v % 65536 := by
  have e : ((put x k v 2).drop k).take 2 = [bt v 0, bt v 1] := by
    apply List.ext_getElem
    · simp [put_len]; omega
    · intro i h1 h2
      simp at h2
      rw [List.getElem_take, List.getElem_drop]
      have hi : i = 0 ∨ i = 1 := by omega
      rcases hi with rfl | rfl
      all_goals simp [put, List.getElem_set]
  rw [e]
  simp only [low]
  rw [bt0, bt1]
  omega

theorem low_put1 (x : List Int) (k : Nat) (v : Int) (hk : k + 1 ≤ x.length) : low (((put x k v 1).drop k).take 1) = v % 256 := by
  have e : ((put x k v 1).drop k).take 1 = [bt v 0] := by
    apply List.ext_getElem
    · simp [put_len]; omega
    · intro i h1 h2
      simp at h2
      rw [List.getElem_take, List.getElem_drop]
      obtain rfl : i = 0 := by omega
      simp [put]
  rw [e]
  simp only [low]
  rw [bt0]
  omega
end Go.Proofs.YtaillnegkfagfacGreat

namespace Go.Proofs.YtaillnegkfagfacGreat
open Go.RowKit
set_option linter.unusedVariables false
set_option linter.unusedSimpArgs false
set_option maxRecDepth 100000

theorem dcP_range (K : Int) (h0 : 0 ≤ K) (h1 : K ≤ 255) : 0 ≤ dcP K ∧ dcP K ≤ 100 := by
  unfold dcP
  split <;> omega

/-- DrawStep AS A FUNCTION OF THE CODE. -/
theorem drawStep_fn (zs0 : List Int) (hz0 : ∀ z ∈ zs0, 0 ≤ z ∧ z ≤ 255) :
    ∃ (pc : Int) (xs F R O : List Int) (rs : List Rg), (7 ≤ xs.length ∧ xs.length ≤ 8 ∧ F.length ≤ 20000 ∧ R.length ≤ 20000 ∧ O.length ≤ 20000 ∧ 1 ≤ rs.length) ∧ ∀ (a : Option Addr) (n c : Nat) (w : World) (h : BS w a n c zs0), Calls Tryz.prog 4 #[.slice a n c] w (DsPost w pc xs F R O rs) := by
  obtain ⟨zs, hzs⟩ : ∃ zs, zs0.take 1000 = zs := ⟨_, rfl⟩
  have hz : ∀ j, 0 ≤ zs.getD j 0 ∧ zs.getD j 0 ≤ 255 := fun j => by
    by_cases hj : j < zs.length
    · have hall : ∀ z ∈ zs, z ∈ zs0 := fun z hz => by
        rw [← hzs] at hz
        exact List.mem_of_mem_take hz
      have hm := hall _ (List.getElem_mem hj)
      have := hz0 _ hm
      simpa [List.getD_eq_getElem?_getD, hj] using this
    · rw [List.getD_eq_getElem?_getD, List.getElem?_eq_none (Nat.le_of_not_lt hj)]
      simp
  obtain ⟨v, kv, ⟨v0, v1⟩, hv⟩ := l3Random_fn zs 10 hz
  obtain ⟨G, hgw, hG⟩ := l2Region_is zs (kv + 1 + 2 * mmN (zs.getD kv 0)) hz
  obtain ⟨p0, p1⟩ := dcP_range (zs.getD 1 0) (hz 1).1 (hz 1).2
  have hx : 7 ≤ (dcR (zs.getD 1 0) (regL zs 2 8)).length ∧ (dcR (zs.getD 1 0) (regL zs 2 8)).length ≤ 8 := by
    have hl : (regL zs 2 8).length = 8 := regL_len _ _ _
    generalize regL zs 2 8 = L at *
    unfold dcR
    split
    · simp [hl]
    · split <;> simp [hl]
  have hN : mmN (zs.getD kv 0) ≤ 32 := by have := hz kv; unfold mmN; omega
  have hk := hz kv
  have hF : (mmF zs kv).length ≤ 20000 := by
    unfold mmF; split
    · rw [List.length_replicate]; omega
    · rw [every2_len]; omega
  have hR : (mmR zs kv).length ≤ 20000 := by
    unfold mmR; split
    · rw [List.length_replicate]; omega
    · rw [every2_len]; omega
  have hO : (mmO zs kv).length ≤ 20000 := by
    unfold mmO; split
    · rw [List.length_replicate]; omega
    · simp
  refine ⟨dcP (zs.getD 1 0), dcR (zs.getD 1 0) (regL zs 2 8), dsF (zs.getD 0 0) (dcP (zs.getD 1 0)) v (mmF zs kv), mmR zs kv, mmO zs kv, dsR (zs.getD 0 0) G, ⟨hx.1, hx.2, ?_, hR, hO, ?_⟩, fun a n c w h => ?_⟩
  · unfold dsF; split
    · rw [put_len]; exact hF
    · exact hF
  · unfold dsR; split
    · simp
    · split
      · exact (by decide : 1 ≤ ds2.length)
      · exact (show 1 ≤ 3 by omega)
  · exact drawStep_at zs0 zs hzs (zs.getD 0 0) _ v _ _ _ _ kv G (hide rfl) (hz 0).1 (hz 0).2 (hide rfl) p0 p1 (hide rfl) hx.1 (hide hv) v0 v1 (hide rfl) (hide rfl) (hide rfl) hF (hide hG) (hide hgw) a n c w h

theorem own3_bs'' {w : World} {base : Nat} {a1 a2 a3 : Option Addr} {m1 d1 m2 d2 m3 d3 : Nat} {y1 y2 y3 : List Int} (h : Own3 w base (.slice a1 m1 d1) (.slice a2 m2 d2) (.slice a3 m3 d3) y1 y2 y3) : BS w a1 m1 d1 y1 ∧ BS w a2 m2 d2 y2 ∧ BS w a3 m3 d3 y3 :=
  ⟨h.1.bs, h.2.1.bs, h.2.2.1.bs⟩
theorem rs_lt {w : World} {a : Option Addr} {n cap : Nat} {rs : List Rg} (h : RS w a n cap rs) (hn : n ≠ 0) {b off : Nat} (e : a = some ⟨b, off, none⟩) : b < w.heap.size := by
  obtain ⟨b', off', e', hc⟩ := h.2.2.2.1 hn
  rw [e] at e'
  injection e' with e'
  injection e' with e1 e2
  subst e1
  exact World.block_lt_of_cell? w _ (hc 0 (by omega)).1
/-- WHAT A STEP MAY TURN. -/
def StOk (pc : Int) (zs x1 x2 x3 : List Int) (r : Res) : Prop :=
  (r.rg = zs ∨ (∃ d v, r.rg = zs.set d v ∧ r.x1 = x1 ∧ r.x2 = x2 ∧ r.x3 = x3)) ∧ (r.did = 5 → r.rg = zs ∧ r.pc = pc ∧ r.x1 = x1 ∧ r.x2 = x2 ∧ r.x3 = x3)
theorem stOk_same (pc : Int) (zs x1 x2 x3 : List Int) (d n : Int) : StOk pc zs x1 x2 x3 ⟨d, n, pc, zs, x1, x2, x3⟩ := ⟨Or.inl rfl, fun _ => ⟨rfl, rfl, rfl, rfl, rfl⟩⟩
theorem stOk_set (pc p : Int) (zs x1 x2 x3 : List Int) (i : Nat) (v : Int) : StOk pc zs x1 x2 x3 ⟨0, 0, p, zs.set i v, x1, x2, x3⟩ := ⟨Or.inr ⟨i, v, rfl, rfl, rfl, rfl⟩, fun h => by simp at h⟩
theorem stOk_ldo (pc : Int) (rg : List Int) (n1 n2 n3 : Nat) (x1 x2 x3 : List Int) (rs : List Rg) (rn : Nat) (d a i s : Int) : StOk pc rg x1 x2 x3 (ldo pc rg n1 n2 n3 x1 x2 x3 rs rn d a i s) := by
  unfold ldo
  split
  · split
    · exact stOk_set _ _ _ _ _ _ _ _
    · exact stOk_same _ _ _ _ _ _ _
  · exact stOk_same _ _ _ _ _ _ _
theorem stOk_sto (pc : Int) (rg : List Int) (n1 n2 n3 : Nat) (x1 x2 x3 : List Int) (rs : List Rg) (rn : Nat) (d a i s : Int) : StOk pc rg x1 x2 x3 (sto pc rg n1 n2 n3 x1 x2 x3 rs rn d a i s) := by
  unfold sto
  split
  · split
    · exact ⟨Or.inl rfl, fun h => by simp at h⟩
    · next hf =>
      obtain ⟨e1, e2, e3⟩ := wrm_f n1 n2 n3 x1 x2 x3 (atOf rg a i) s (rg.getD d.toNat 0) hf
      exact ⟨Or.inl rfl, fun _ => ⟨rfl, rfl, e1, e2, e3⟩⟩
  · exact stOk_same _ _ _ _ _ _ _
theorem ev_ne (op i nx : Int) : (ev op i nx).1 ≠ 5 := by
  unfold ev
  split
  · simp
  · split
    · simp
    · split
      · simp
      · split <;> simp
theorem stepF_ok (pc : Int) (n : Nat) (zs : List Int) (n1 n2 n3 : Nat) (x1 x2 x3 : List Int) (rs : List Rg) (rn : Nat) : StOk pc zs x1 x2 x3 (stepF pc n zs n1 n2 n3 x1 x2 x3 rs rn) := by
  unfold stepF
  split
  · unfold stp
    split
    · generalize (rd n1 n2 n3 x1 x2 pc 4).1 = W
      unfold opr
      repeat' split
      all_goals first
        | exact stOk_ldo _ _ _ _ _ _ _ _ _ _ _ _ _ _
        | exact stOk_sto _ _ _ _ _ _ _ _ _ _ _ _ _ _
        | exact stOk_set _ _ _ _ _ _ _ _
        | exact ⟨Or.inl rfl, fun h => absurd h (ev_ne _ _ _)⟩
    · exact stOk_same _ _ _ _ _ _ _
  · exact stOk_same _ _ _ _ _ _ _
/-- how many of the first k registers have turned -/
def chg (zs ys : List Int) : Nat → Nat
  | 0 => 0
  | k + 1 => chg zs ys k + if ys.getD k 0 = zs.getD k 0 then 0 else 1
theorem chg_same (zs : List Int) : ∀ k, chg zs zs k = 0
  | 0 => rfl
  | k + 1 => by rw [chg, chg_same zs k]; simp
theorem chg_set (zs : List Int) (d : Nat) (v : Int) : ∀ k, chg zs (zs.set d v) k ≤ if d < k then 1 else 0
  | 0 => by simp [chg]
  | k + 1 => by
    have ih := chg_set zs d v k
    rw [chg]
    by_cases e : k = d
    · subst e
      rw [if_neg (Nat.lt_irrefl k)] at ih
      rw [if_pos (show k < k + 1 by omega)]
      split <;> omega
    · have e2 : (zs.set d v).getD k 0 = zs.getD k 0 := by simp [List.getD_eq_getElem?_getD, List.getElem?_set, Ne.symm e]
      rw [if_pos e2]
      by_cases h : d < k
      · rw [if_pos h] at ih; rw [if_pos (show d < k + 1 by omega)]; omega
      · rw [if_neg h] at ih; rw [if_neg (show ¬ d < k + 1 by omega)]; omega
theorem chg_le (zs ys : List Int) : ∀ k, chg zs ys k ≤ k
  | 0 => Nat.le_refl _
  | k + 1 => by have := chg_le zs ys k; rw [chg]; split <;> omega
theorem chg_one {pc : Int} {zs x1 x2 x3 : List Int} {r : Res} (h : StOk pc zs x1 x2 x3 r) (k : Nat) : chg zs r.rg k ≤ 1 ∧ (chg zs r.rg k ≠ 0 → r.x1 = x1 ∧ r.x2 = x2 ∧ r.x3 = x3) ∧ r.rg.length = zs.length := by
  rcases h.1 with e | ⟨d, v, e, e1, e2, e3⟩
  · rw [e, chg_same]; simp
  · have := chg_set zs d v k
    rw [e]
    refine ⟨?_, fun _ => ⟨e1, e2, e3⟩, by simp⟩
    split at this <;> omega
end Go.Proofs.YtaillnegkfagfacGreat

namespace Go.Proofs.YtaillnegkfagfacGreat
open Go.RowKit
set_option linter.unusedVariables false
set_option linter.unusedSimpArgs false
set_option maxRecDepth 100000

/-- A CORE AND A MEMORY IN THEIR BOXES. -/
structure Cm (W : World) (C M : Nat) (pc : Int) (ca : Option Addr) (nr cc : Nat) (rg : List Int) (a1 : Option Addr) (m1 d1 : Nat) (a2 : Option Addr) (m2 d2 : Nat) (a3 : Option Addr) (m3 d3 : Nat) (x1 x2 x3 : List Int) : Prop where
  kc : Blk W C #[.int .i64 pc, .slice ca nr cc] 25
  km : Blk W M #[.slice a1 m1 d1, .slice a2 m2 d2, .slice a3 m3 d3] 27
  i : IS W ca nr cc rg
  b1 : BS W a1 m1 d1 x1
  b2 : BS W a2 m2 d2 x2
  b3 : BS W a3 m3 d3 x3
theorem Cm.below {W W' : World} {C M : Nat} {pc : Int} {ca : Option Addr} {nr cc : Nat} {rg : List Int} {a1 : Option Addr} {m1 d1 : Nat} {a2 : Option Addr} {m2 d2 : Nat} {a3 : Option Addr} {m3 d3 : Nat} {x1 x2 x3 : List Int} (h : Cm W C M pc ca nr cc rg a1 m1 d1 a2 m2 d2 a3 m3 d3 x1 x2 x3) (b : Below W.heap.size W W') : Cm W' C M pc ca nr cc rg a1 m1 d1 a2 m2 d2 a3 m3 d3 x1 x2 x3 :=
  ⟨h.kc.below b, h.km.below b, h.i.below b, h.b1.below b, h.b2.below b, h.b3.below b⟩
theorem Cm.new {w : World} {pc : Int} {ca : Option Addr} {nr cc : Nat} {rg : List Int} {a1 : Option Addr} {m1 d1 : Nat} {a2 : Option Addr} {m2 d2 : Nat} {a3 : Option Addr} {m3 d3 : Nat} {x1 x2 x3 : List Int} (i : IS w ca nr cc rg) (b1 : BS w a1 m1 d1 x1) (b2 : BS w a2 m2 d2 x2) (b3 : BS w a3 m3 d3 x3) :
    Cm ((w.alloc (.cells #[.int .i64 pc, .slice ca nr cc] 25)).alloc (.cells #[.slice a1 m1 d1, .slice a2 m2 d2, .slice a3 m3 d3] 27)) w.heap.size (w.heap.size + 1) pc ca nr cc rg a1 m1 d1 a2 m2 d2 a3 m3 d3 x1 x2 x3 := by
  have b : Below w.heap.size w ((w.alloc (.cells #[.int .i64 pc, .slice ca nr cc] 25)).alloc (.cells #[.slice a1 m1 d1, .slice a2 m2 d2, .slice a3 m3 d3] 27)) := ((Below.refl _ _).alloc (Nat.le_refl _) _).alloc (by simp) _
  have k := Blk.new (w.alloc (.cells #[.int .i64 pc, .slice ca nr cc] 25)) #[.slice a1 m1 d1, .slice a2 m2 d2, .slice a3 m3 d3] 27
  simp only [World.size_alloc] at k
  exact ⟨(Blk.new w _ _).alloc _, k, i.below b, b1.below b, b2.below b, b3.below b⟩
theorem two_more (w : World) (o p : Obj) : Below w.heap.size w ((w.alloc o).alloc p) := ((Below.refl _ _).alloc (Nat.le_refl _) _).alloc (by simp) _

set_option maxHeartbeats 8000000 in
theorem fnStep_walk (a : Option Addr) (n c : Nat) (zs : List Int) (w : World) (h : BS w a n c zs) :
    Calls Tryz.prog 3 #[.slice a n c] w fun e w' => e = .returned (.bool true) ∧ Below w.heap.size w w' := by
  have hm := h.2.1
  unfold maxLen at hm
  by_cases hn : (1048576 : Int) < (n : Int)
  · go_enter Tryz.func3, Tryz.ntmps3
    go_wp2
    go_ret
    exact ⟨rfl, Below.refl _ _⟩
  obtain ⟨pc, xs, F, R, O, rs, ⟨x7, x8, f1, f2, f3, hr1⟩, hD⟩ := drawStep_fn zs h.2.2.1
  have HD := hide (fun w h => hD a n c w h)
  clear hD
  unfold DsPost at HD
  obtain ⟨nx, hnx⟩ : ∃ nx, nx = xs.length := ⟨_, rfl⟩
  obtain ⟨n1, hn1⟩ : ∃ n1, n1 = F.length := ⟨_, rfl⟩
  obtain ⟨n2, hn2⟩ : ∃ n2, n2 = R.length := ⟨_, rfl⟩
  obtain ⟨n3, hn3⟩ : ∃ n3, n3 = O.length := ⟨_, rfl⟩
  obtain ⟨rn, hrn⟩ : ∃ rn, rn = rs.length := ⟨_, rfl⟩
  rw [← hnx, ← hn1, ← hn2, ← hn3, ← hrn] at HD
  rw [← hnx] at x7 x8
  rw [← hn1] at f1
  rw [← hn2] at f2
  rw [← hn3] at f3
  rw [← hrn] at hr1
  have hok := stepF_ok pc nx xs n1 n2 n3 F R O rs rn
  have HSS := hide (fun cb co cc b1 o1 b2 o2 b3 o3 c1 c2 c3 ra rc w hc h1 h2 h3 hrs => sStep_any pc cb co nx cc xs b1 o1 b2 o2 b3 o3 n1 c1 n2 c2 n3 c3 F R O ra rn rc rs w hc h1 h2 h3 hrs (by omega) (by omega))
  have HSI := hide (fun cb co cc b1 o1 b2 o2 b3 o3 c1 c2 c3 ra rc w hc h1 h2 h3 hrs hl => iStep_any pc cb co nx cc xs b1 o1 b2 o2 b3 o3 n1 c1 n2 c2 n3 c3 F R O ra rn rc rs w hc h1 h2 h3 hrs hl (by omega) (by omega))
  generalize stepF pc nx xs n1 n2 n3 F R O rs rn = r at *
  obtain ⟨did, num, pc', rg, y1, y2, y3⟩ := r
  have HOK := hide hok
  have hcl := (chg_one hok 0).2.2
  dsimp only at hcl
  clear hok
  unfold StPost at HSS HSI
  dsimp only at HSS HSI
  obtain ⟨q1, hq1⟩ : ∃ q1, q1 = y1.length := ⟨_, rfl⟩
  obtain ⟨q2, hq2⟩ : ∃ q2, q2 = y2.length := ⟨_, rfl⟩
  obtain ⟨q3, hq3⟩ : ∃ q3, q3 = y3.length := ⟨_, rfl⟩
  have HQ := hide (And.intro hq1 (And.intro hq2 (And.intro hq3 (show rg.length = nx by rw [hcl, hnx]))))
  clear hnx hn1 hn2 hn3 hrn hq1 hq2 hq3 hcl
  go_enter Tryz.func3, Tryz.ntmps3
  go_wp2_with fail
  refine (HD.out _ h).mono ?_
  rintro e w1 ⟨g, d, b1, d1, b2, d2, b3, d3, ra, rc, rfl, I, B1, B2, B3, RR, hB1⟩
  have A1 := Cm.new (pc := pc) I B1 B2 B3
  have al1 := two_more w1 (.cells #[.int .i64 pc, .slice (some ⟨g, 0, none⟩) nx d] 25) (.cells #[.slice (some ⟨b1, 0, none⟩) n1 d1, .slice (some ⟨b2, 0, none⟩) n2 d2, .slice (some ⟨b3, 0, none⟩) n3 d3] 27)
  have RR := RR.below al1
  have hB1 := hB1.trans (al1.mono hB1.size)
  clear al1 I B1 B2 B3
  obtain ⟨u1, u2, u3⟩ := A1.kc.two
  obtain ⟨s1, s2, s3, s4⟩ := A1.km.three
  go_wp2_with fail
  refine (HSS.out g 0 d b1 0 b2 0 b3 0 d1 d2 d3 _ rc _ A1.i A1.b1 A1.b2 A1.b3 RR).mono ?_
  clear HSS u1 u2 u3 s1 s2 s3 s4 RR
  rintro e w2 ⟨ca, nr, cc, a1, m1, e1, a2, m2, e2, a3, m3, e3, rfl, OC, OM, hb2⟩
  obtain ⟨M1, M2, M3⟩ := own3_bs'' OM
  have IC := OC.is
  obtain rfl : nx = nr := by rw [← IC.1]; exact HQ.out.2.2.2.symm
  obtain rfl : q1 = m1 := by rw [← M1.1]; exact HQ.out.1
  obtain rfl : q2 = m2 := by rw [← M2.1]; exact HQ.out.2.1
  obtain rfl : q3 = m3 := by rw [← M3.1]; exact HQ.out.2.2.1
  have A1 := A1.below hb2
  have hB2 := hB1.trans (hb2.mono hB1.size)
  have A2 := Cm.new (pc := pc') IC M1 M2 M3
  have al2 := two_more w2 (.cells #[.int .i64 pc', .slice ca nx cc] 25) (.cells #[.slice a1 q1 e1, .slice a2 q2 e2, .slice a3 q3 e3] 27)
  have A1 := A1.below al2
  have hB2 := hB2.trans (al2.mono hB2.size)
  clear al2 hb2 hB1 OC OM IC M1 M2 M3
  go_wp2_with fail
  refine (HD.out _ (h.below hB2)).mono ?_
  rintro e w3 ⟨g', d', b1', d1', b2', d2', b3', d3', ra', rc', rfl, I, B1, B2, B3, RR, hb3⟩
  have A1 := A1.below hb3
  have A2 := A2.below hb3
  have hB3 := hB2.trans (hb3.mono hB2.size)
  have A3 := Cm.new (pc := pc) I B1 B2 B3
  have al3 := two_more w3 (.cells #[.int .i64 pc, .slice (some ⟨g', 0, none⟩) nx d'] 25) (.cells #[.slice (some ⟨b1', 0, none⟩) n1 d1', .slice (some ⟨b2', 0, none⟩) n2 d2', .slice (some ⟨b3', 0, none⟩) n3 d3'] 27)
  have RR := RR.below al3
  have A1 := A1.below al3
  have A2 := A2.below al3
  have hB3 := hB3.trans (al3.mono hB3.size)
  clear al3 I B1 B2 B3 hb3 hB2
  obtain ⟨u1, u2, u3⟩ := A3.kc.two
  obtain ⟨s1, s2, s3, s4⟩ := A3.km.three
  go_wp2_with fail
  refine (HSI.out g' 0 d' b1' 0 b2' 0 b3' 0 d1' d2' d3' _ rc' _ A3.i A3.b1 A3.b2 A3.b3 RR (fun b off e => rs_lt RR (by omega) e)).mono ?_
  clear HSI u1 u2 u3 s1 s2 s3 s4 RR
  rintro e w4 ⟨ca', nr', cc', a1', m1', e1', a2', m2', e2', a3', m3', e3', rfl, OC, OM, hb4⟩
  obtain ⟨M1, M2, M3⟩ := own3_bs'' OM
  have IC := OC.is
  obtain rfl : nx = nr' := by rw [← IC.1]; exact HQ.out.2.2.2.symm
  obtain rfl : q1 = m1' := by rw [← M1.1]; exact HQ.out.1
  obtain rfl : q2 = m2' := by rw [← M2.1]; exact HQ.out.2.1
  obtain rfl : q3 = m3' := by rw [← M3.1]; exact HQ.out.2.2.1
  have A1 := A1.below hb4
  have A2 := A2.below hb4
  have A3 := A3.below hb4
  have hB4 := hB3.trans (hb4.mono hB3.size)
  have A4 := Cm.new (pc := pc') IC M1 M2 M3
  have al4 := two_more w4 (.cells #[.int .i64 pc', .slice ca' nx cc'] 25) (.cells #[.slice a1' q1 e1', .slice a2' q2 e2', .slice a3' q3 e3'] 27)
  have A1 := A1.below al4
  have A2 := A2.below al4
  have A3 := A3.below al4
  have hB4 := hB4.trans (al4.mono hB4.size)
  clear al4 hb4 hB3 OC OM IC M1 M2 M3 HD
  obtain ⟨b, off, rfl⟩ := A2.i.addr (by omega)
  obtain ⟨b', off', rfl⟩ := A4.i.addr (by omega)
  have c1 : (did != did) = false := by simp
  have c2 : (num != num) = false := by simp
  have c3 : (pc' != pc') = false := by simp
  have c4 : ((nx : Int) != (nx : Int)) = false := by simp
  obtain ⟨s1, s2, s3, s4⟩ := A4.km.three
  obtain ⟨t1, t2, t3, t4⟩ := A2.km.three
  go_wp2_with fail
  refine (sameMem_same _ _ _ _ _ _ q1 e1' q2 e2' q3 e3' e1 e2 e3 y1 y2 y3 _ A4.b1 A4.b2 A4.b3 A2.b1 A2.b2 A2.b3).mono ?_
  rintro e w5 ⟨rfl, hb5⟩
  have A1 := A1.below hb5
  have A2 := A2.below hb5
  have A3 := A3.below hb5
  have A4 := A4.below hb5
  have hB5 := hB4.trans (hb5.mono hB4.size)
  clear hb5 hB4 s1 s2 s3 s4 t1 t2 t3 t4
  obtain ⟨s1, s2, s3, s4⟩ := A3.km.three
  obtain ⟨t1, t2, t3, t4⟩ := A1.km.three
  go_wp2_with fail
  refine (sameMem_same _ _ _ _ _ _ n1 d1' n2 d2' n3 d3' d1 d2 d3 F R O _ A3.b1 A3.b2 A3.b3 A1.b1 A1.b2 A1.b3).mono ?_
  rintro e w6 ⟨rfl, hb6⟩
  have A1 := A1.below hb6
  have A2 := A2.below hb6
  have A3 := A3.below hb6
  have A4 := A4.below hb6
  have hB6 := hB5.trans (hb6.mono hB5.size)
  clear hb6 hB5 s1 s2 s3 s4 t1 t2 t3 t4
  obtain ⟨p1, p2, p3⟩ := A1.kc.two
  obtain ⟨u1, u2, u3⟩ := A2.kc.two
  obtain ⟨v1, v2, v3⟩ := A4.kc.two
  go_wp2_with fail
  clear p1 p2 p3 u1 u2 u3 v1 v2 v3
  go_loopw [17, 18] (fun x i wr => ∃ k : Nat, k ≤ nx ∧ i = .int .i64 k ∧ x = .int .i64 (chg xs rg k) ∧ Below w6.heap.size w6 wr) (fun _ i _ => nx - (intOf i).toNat)
  case atStart => exact ⟨0, Nat.zero_le _, rfl, rfl, Below.refl _ _⟩
  case round =>
    obtain ⟨k, hk, rfl, rfl, hbw⟩ := hrel
    replace A1 := A1.below hbw
    replace A2 := A2.below hbw
    replace A3 := A3.below hbw
    replace A4 := A4.below hbw
    have hB7 := hB6.trans (hbw.mono hB6.size)
    obtain ⟨p1, p2, p3⟩ := A1.kc.two
    obtain ⟨u1, u2, u3⟩ := A2.kc.two
    obtain ⟨o1, o2, o3⟩ := A3.kc.two
    obtain ⟨v1, v2, v3⟩ := A4.kc.two
    by_cases hlt : k < nx
    · have hlt' : (k : Int) < (nx : Int) := by omega
      have y1 := A1.i.at k hlt
      have y2 := A2.i.at k hlt
      have y3 := A3.i.at k hlt
      have y4 := A4.i.at k hlt
      simp only [Nat.zero_add] at y1 y3
      have HCH := hide (show chg xs rg (k + 1) = chg xs rg k + if rg.getD k 0 = xs.getD k 0 then 0 else 1 from rfl)
      have hcl := chg_le xs rg k
      generalize chg xs rg k = ck at *
      generalize rg.getD k 0 = zr at *
      generalize xs.getD k 0 = zx at *
      have c5 : (zr != zr) = false := by simp
      have c6 : (zx != zx) = false := by simp
      clear A1 A2 A3 A4 p1 u1 o1 v1
      by_cases hq : zr = zx
      · rw [if_pos hq] at HCH
        have c7 : (zr != zx) = false := by simp [hq]
        clear hq
        go_wp2_with fail
        go_quiet (fail)
        go_wp2_with fail
        go_quiet (fail)
        go_wp2
        go_roundw
        case rel => exact ⟨k + 1, by omega, by go_num, by rw [HCH.out]; rfl, below_drewN hbw _⟩
        case measure => simp [intOf]; omega
      · rw [if_neg hq] at HCH
        have c7 : (zr != zx) = true := by simpa using hq
        clear hq
        go_wp2_with fail
        go_quiet (fail)
        go_wp2_with fail
        go_quiet (fail)
        go_wp2
        go_roundw
        case rel => exact ⟨k + 1, by omega, by go_num, by rw [HCH.out]; go_num, below_drewN hbw _⟩
        case measure => simp [intOf]; omega
    · have hkn : k = nx := by omega
      subst hkn
      have hge : ¬ (k : Int) < (k : Int) := by omega
      obtain ⟨ch1, ch2, _⟩ := chg_one HOK.out k
      have hd := HOK.out.2
      dsimp only at ch1 ch2 hd
      clear hlt hk
      by_cases h5 : did = 5
      · obtain ⟨e1', e2', e3', e4', e5'⟩ := hd h5
        have ec : chg xs rg k = 0 := by rw [e1']; exact chg_same _ _
        rw [ec]
        have HA := hide (And.intro A1 A4)
        have en : n1 = q1 ∧ n2 = q2 ∧ n3 = q3 := ⟨by rw [← A1.b1.1, ← A2.b1.1, e3'], by rw [← A1.b2.1, ← A2.b2.1, e4'], by rw [← A1.b3.1, ← A2.b3.1, e5']⟩
        clear A1 A2 A3 A4
        obtain ⟨rfl, rfl, rfl⟩ := en
        subst h5 e2' e3' e4' e5'
        clear ch1 ch2 hd ec
        have c8 : (pc' == pc') = true := by simp
        obtain ⟨s1, s2, s3, s4⟩ := HA.out.2.km.three
        obtain ⟨t1, t2, t3, t4⟩ := HA.out.1.km.three
        go_wp2_with fail
        refine (sameMem_same _ _ _ _ _ _ n1 _ n2 _ n3 _ d1 d2 d3 _ _ _ _ HA.out.2.b1 HA.out.2.b2 HA.out.2.b3 HA.out.1.b1 HA.out.1.b2 HA.out.1.b3).mono ?_
        rintro e w8 ⟨rfl, hb8⟩
        go_wp2
        go_ret
        exact ⟨rfl, hB7.trans (hb8.mono hB7.size)⟩
      · have g5 : (did == 5) = false := by simpa using h5
        clear h5 hd
        by_cases h0 : chg xs rg k = 0
        · rw [h0]
          clear ch1 ch2 h0
          go_wp2
          go_ret
          exact ⟨rfl, hB7⟩
        · have e1 : chg xs rg k = 1 := by omega
          obtain ⟨e3', e4', e5'⟩ := ch2 h0
          rw [e1]
          have HA := hide (And.intro A1 A4)
          have en : n1 = q1 ∧ n2 = q2 ∧ n3 = q3 := ⟨by rw [← A1.b1.1, ← A2.b1.1, e3'], by rw [← A1.b2.1, ← A2.b2.1, e4'], by rw [← A1.b3.1, ← A2.b3.1, e5']⟩
          clear A1 A2 A3 A4
          obtain ⟨rfl, rfl, rfl⟩ := en
          subst e3' e4' e5'
          clear ch1 ch2 h0 e1
          obtain ⟨s1, s2, s3, s4⟩ := HA.out.2.km.three
          obtain ⟨t1, t2, t3, t4⟩ := HA.out.1.km.three
          go_wp2_with fail
          refine (sameMem_same _ _ _ _ _ _ n1 _ n2 _ n3 _ d1 d2 d3 _ _ _ _ HA.out.2.b1 HA.out.2.b2 HA.out.2.b3 HA.out.1.b1 HA.out.1.b2 HA.out.1.b3).mono ?_
          rintro e w8 ⟨rfl, hb8⟩
          go_wp2
          go_ret
          exact ⟨rfl, hB7.trans (hb8.mono hB7.size)⟩
end Go.Proofs.YtaillnegkfagfacGreat
