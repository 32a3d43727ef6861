import Derived.Test.YthnelonbpbhhbabDr3
namespace Go.Proofs.Ythnelonbpbhhbab
open Go.RowKit
set_option linter.unusedVariables false
set_option maxRecDepth 100000

def slen : Value → Nat
  | .slice _ n _ => n
  | _ => 0

theorem wf_five : wfi ((0, 5, 0, true, false, false) : Rg).1 ∧ wfi ((0, 5, 0, true, false, false) : Rg).2.1 ∧ wfi ((0, 5, 0, true, false, false) : Rg).2.2.1 := by
  unfold wfi
  decide

def LsPost (w : World) (r : Nat) (a : Option Addr) (n c : Nat) (zs : List Int) (e : Ending) (w' : World) : Prop :=
  ∃ (x : Option Addr) (m cap : Nat) (rs : List Rg) (k' : Nat), e = .returned (.slice x m cap) ∧ m ≤ 20 ∧ OR w' w.heap.size (.slice x m cap) rs ∧ Rdr w' r a n c zs k' ∧ Turn (fun j => j = r) w w'

set_option maxHeartbeats 4000000 in
theorem l2Regions_any (r : Nat) (a : Option Addr) (n c : Nat) (zs : List Int) (k : Nat) (w : World) (h : Rdr w r a n c zs k) (hcode : n ≠ 0 → ∀ b off, a = some ⟨b, off, none⟩ → b < w.heap.size) :
    Calls Try.prog 66 #[.pointer (some ⟨r, 0, none⟩)] w (LsPost w r a n c zs) := by
  obtain ⟨i0, hi, hz0, hz1, hz2⟩ := info_parts infoR
  have hrw := h.blk.lt
  obtain ⟨v1, E1, z0, z0'⟩ := draw_is h.bs k
  have HC := hide hcode
  clear hcode
  go_enter Try.func66, Try.ntmps66
  go_wp2_with fail
  refine (next_is r a n c zs k v1 _ h E1).mono ?_
  rintro e w1 ⟨rfl, h1, t1⟩
  have hz := t1.size
  have HO := hide (or_empty w1 w.heap.size hz)
  have HR := hide (rdr_alloc h1 (.cells #[] 30))
  have HT := hide (turn_more t1 (.cells #[] 30))
  clear h1 t1 h
  go_wp2
  go_loopw [4, 5] (fun x i wr => ∃ (A : Option Addr) (m cap : Nat) (rs : List Rg) (k' : Nat), x = .slice A m cap ∧ (m : Int) ≤ v1 % 5 ∧ i = .int .i64 m ∧ OR wr w.heap.size (.slice A m cap) rs ∧ Rdr wr r a n c zs k' ∧ Turn (fun j => j = r) w wr) (fun _ i _ => (v1 % 5).toNat - (intOf i).toNat)
  case atStart => exact ⟨_, 0, 0, [], k + 1, rfl, by omega, rfl, HO.out, HR.out, HT.out⟩
  case round =>
    obtain ⟨A, m, cap, rs, k', rfl, hm, rfl, hO, hR, hT⟩ := hrel
    have hlen := (or_rs hO).1
    by_cases hlt : (m : Int) < v1 % 5
    · have hsz := hT.size
      go_wp2_with fail
      refine (l2Region_any r a n c zs k' _ hR (fun h0 b off e => by have := HC.out h0 b off e; omega)).mono ?_
      rintro e w2 ⟨g1, g2, g3, g4, g5, g6, k2, rfl, hw, hR2, t2⟩
      have hz2' := t2.size
      have hO2 := turn_or t2 hO (fun k hk e => by subst e; omega)
      have hT2 := hT.trans t2
      have HOWN := hide (hO2.1.alloc (.cells #[.int .i64 g1, .int .i64 g2, .int .i64 g3, .bool g4, .bool g5, .bool g6] 30))
      rw [hlen] at HOWN
      have HLEN := hide (show (cells6 (g1, g2, g3, g4, g5, g6)).length = 1 * 6 from rfl)
      have HNEWS := hide (news6 w2 (g1, g2, g3, g4, g5, g6))
      have HONE := hide (one6 (g1, g2, g3, g4, g5, g6))
      have HW := hide hw
      have HRS := hide hO2.2
      have HR2 := hide (rdr_alloc hR2 (.cells #[.int .i64 g1, .int .i64 g2, .int .i64 g3, .bool g4, .bool g5, .bool g6] 30))
      have HT2 := hide (turn_more hT2 (.cells #[.int .i64 g1, .int .i64 g2, .int .i64 g3, .bool g4, .bool g5, .bool g6] 30))
      have HL := hide hlen
      have HLT := hide hO2.1.lt
      clear hO hR hT t2 hO2 hR2 hT2 hw hlen
      go_wp2_with (at_builtin; refine wpList_append_own _ rfl _ _ 25 rfl w.heap.size 30 i0 (.agg #[.int .i64 0, .int .i64 0, .int .i64 0, .bool false, .bool false, .bool false]) 6 32 Try.underlying25 hi hz0 hz1 hz2 rfl (by decide) (.slice A m cap) m (flat rs) rfl HOWN.out ⟨w2.heap.size, 0, none⟩ 1 1 (cells6 (g1, g2, g3, g4, g5, g6)) rfl HLEN.out HNEWS.out HONE.out (by unfold maxLen; omega) (by omega) (by simp; omega) ?_; intro v' w3 hown3 hgr3 _)
      obtain ⟨A', cap', he⟩ := or_shape hown3
      subst he
      have hO3 := or_more (W := w2) (v := .slice A m cap) (g := (g1, g2, g3, g4, g5, g6)) HRS.out HW.out (by rw [HL.out]; exact hown3)
      have t3 := grown_turn hgr3
      have hfar : ∀ j, (Value.slice A m cap).ownBlock = some j → w.heap.size ≤ j := fun j hj => (HLT.out j hj).1
      have hR3 := rdr_turn HR2.out t3 (fun e => by have := hfar r e; omega) (fun h0 j hj b off e => by have := hfar j hj; have := HC.out h0 b off e; omega)
      have hT3 := turn_far HT2.out t3 hfar
      have H3 := hide (And.intro hO3 (And.intro hR3 hT3))
      clear hO3 t3 hfar hR3 hT3 hown3 hgr3
      go_roundw
      case rel => exact ⟨A', m + 1, cap', rs ++ [(g1, g2, g3, g4, g5, g6)], k2, rfl, by omega, by go_num, H3.out.1, H3.out.2.1, H3.out.2.2⟩
      case measure => simp [intOf]; omega
    · by_cases h248 : v1 < 248
      · have HO' := hide hO
        have HR' := hide hR
        have HT' := hide hT
        clear hO hR hT
        go_wp2
        go_ret
        exact ⟨A, m, cap, rs, k', rfl, by omega, HO'.out, HR'.out, HT'.out⟩
      · have HO' := hide hO
        have HR' := hide hR
        have HT' := hide hT
        have hm5 : m ≤ 4 := by omega
        clear hO hR hT HO HR HT
        go_wp2
        go_loopw [4] (fun x wr => ∃ (A : Option Addr) (m cap : Nat) (rs : List Rg), x = .slice A m cap ∧ m ≤ 9 ∧ OR wr w.heap.size (.slice A m cap) rs ∧ Rdr wr r a n c zs k' ∧ Turn (fun j => j = r) w wr) (fun x _ => 20 - slen x)
        case atStart => exact ⟨A, m, cap, rs, rfl, by omega, HO'.out, HR'.out, HT'.out⟩
        case round =>
          obtain ⟨A, m, cap, rs, rfl, hm, hO, hR, hT⟩ := hrel
          have hlen := (or_rs hO).1
          by_cases hlt : (m : Int) < 8 + v1 % 2
          · obtain ⟨w2, hw2⟩ : ∃ w2, w2 = wr := ⟨_, rfl⟩
            subst hw2
            have hsz := hT.size
            have HOWN := hide (hO.1.alloc (.cells #[.int .i64 0, .int .i64 5, .int .i64 0, .bool true, .bool false, .bool false] 30))
            rw [hlen] at HOWN
            have HLEN := hide (show (cells6 (0, 5, 0, true, false, false)).length = 1 * 6 from rfl)
            have HNEWS := hide (news6 w2 (0, 5, 0, true, false, false))
            have HONE := hide (one6 (0, 5, 0, true, false, false))
            have HW := hide wf_five
            have HRS := hide hO.2
            have HR2 := hide (rdr_alloc hR (.cells #[.int .i64 0, .int .i64 5, .int .i64 0, .bool true, .bool false, .bool false] 30))
            have HT2 := hide (turn_more hT (.cells #[.int .i64 0, .int .i64 5, .int .i64 0, .bool true, .bool false, .bool false] 30))
            have HL := hide hlen
            have HLT := hide hO.1.lt
            clear hO hR hT hlen
            go_wp2_with (at_builtin; refine wpList_append_own _ rfl _ _ 25 rfl w.heap.size 30 i0 (.agg #[.int .i64 0, .int .i64 0, .int .i64 0, .bool false, .bool false, .bool false]) 6 32 Try.underlying25 hi hz0 hz1 hz2 rfl (by decide) (.slice A m cap) m (flat rs) rfl HOWN.out ⟨w2.heap.size, 0, none⟩ 1 1 (cells6 (0, 5, 0, true, false, false)) rfl HLEN.out HNEWS.out HONE.out (by unfold maxLen; omega) (by omega) (by simp; omega) ?_; intro v' w3 hown3 hgr3 _)
            obtain ⟨A', cap', he⟩ := or_shape hown3
            subst he
            have hO3 := or_more (W := w2) (v := .slice A m cap) (g := (0, 5, 0, true, false, false)) HRS.out HW.out (by rw [HL.out]; exact hown3)
            have t3 := grown_turn hgr3
            have hfar : ∀ j, (Value.slice A m cap).ownBlock = some j → w.heap.size ≤ j := fun j hj => (HLT.out j hj).1
            have hR3 := rdr_turn HR2.out t3 (fun e => by have := hfar r e; omega) (fun h0 j hj b off e => by have := hfar j hj; have := HC.out h0 b off e; omega)
            have hT3 := turn_far HT2.out t3 hfar
            have H3 := hide (And.intro hO3 (And.intro hR3 hT3))
            clear hO3 t3 hfar hR3 hT3 hown3 hgr3
            go_roundw
            case rel => exact ⟨A', m + 1, cap', rs ++ [(0, 5, 0, true, false, false)], rfl, by omega, H3.out.1, H3.out.2.1, H3.out.2.2⟩
            case measure => simp [slen]; omega
          · have HO'' := hide hO
            have HR'' := hide hR
            have HT'' := hide hT
            clear hO hR hT
            go_wp2
            go_ret
            exact ⟨A, m, cap, rs, k', rfl, by omega, HO''.out, HR''.out, HT''.out⟩
end Go.Proofs.Ythnelonbpbhhbab
