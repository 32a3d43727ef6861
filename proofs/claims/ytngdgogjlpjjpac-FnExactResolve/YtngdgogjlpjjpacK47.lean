import Derived.Test.YtngdgogjlpjjpacK46
import Derived.Test.YtngdgogjlpjjpacK03
namespace Go.Proofs.Ytngdgogjlpjjpac
open Go.RowKit Go.Maps
set_option linter.unusedVariables false
set_option linter.unusedSimpArgs false
set_option maxRecDepth 100000

/-- WHETHER THE TABLES FIT. -/
def tbf (n : Nat) (ms : List Md) : Bool := decide (n ≤ 4) && (List.range n).all fun i => decide ((ms.getD i zMd).en ≤ 16)
set_option maxHeartbeats 1000000 in
theorem tablesFit_any (a : Option Addr) (n cap : Nat) (ms : List Md) (w : World) (h : MS w a n cap ms) :
    Calls Try.prog 58 #[.slice a n cap] w fun e w' => e = .returned (.bool (tbf n ms)) ∧ Below w.heap.size w w' := by
  have hm1 := h.2.1
  unfold maxLen at hm1
  obtain ⟨r, hr⟩ : ∃ r, r = tbf n ms := ⟨_, rfl⟩
  rw [← hr]
  unfold tbf at hr
  by_cases c1 : 4 < n
  · have HR := hide (show r = false by rw [hr, decide_eq_false (by omega)]; rfl)
    clear hr
    have c1' : (4 : Int) < (n : Int) := by omega
    go_enter Try.func58, Try.ntmps58
    go_wp2
    go_ret
    exact ⟨ret_bool HR.out.symm, Below.refl _ _⟩
  · have c1' : ¬ (4 : Int) < (n : Int) := by omega
    have HR := hide (show r = (List.range n).all (fun i => decide ((ms.getD i zMd).en ≤ 16)) by rw [hr, decide_eq_true (by omega)]; rfl)
    clear hr
    go_enter Try.func58, Try.ntmps58
    go_wp2_with fail
    go_loopw [10] (fun i wr => ∃ k : Nat, k ≤ n ∧ i = .int .i64 k ∧ Hid (∀ j, j < k → decide ((ms.getD j zMd).en ≤ 16) = true) ∧ Below w.heap.size w wr) (fun i _ => n - (intOf i).toNat)
    case atStart => exact ⟨0, Nat.zero_le _, rfl, hide (fun j hj => by omega), Below.refl _ _⟩
    case round =>
      obtain ⟨k, hk, rfl, HJ, hB⟩ := hrel
      by_cases hlt : k < n
      · have hlt' : (k : Int) < (n : Int) := by omega
        obtain ⟨bb, off, rfl, q0, q1, q2, q3, q4, q5, q6, q7⟩ := (h.below hB).at k hlt
        have HZ := hide (rng_bad (fun i => decide ((ms.getD i zMd).en ≤ 16)) n k hlt)
        have HG := hide (show decide ((ms.getD k zMd).en ≤ 16) = true → ∀ j, j < k + 1 → decide ((ms.getD j zMd).en ≤ 16) = true from fun h j hj => by
          by_cases e : j = k
          · subst e; exact h
          · exact HJ.out j (by omega))
        generalize ms.getD k zMd = m at *
        obtain ⟨nm, ta, tn, tc, tz, ba, bn, bc, bl, da, dn, dc, dz, bss, ra, rn, rc, rz, ia, im, ic, ss, ea, en, ec, es⟩ := m
        dsimp only at q0 q1 q2 q3 q4 q5 q6 q7 HZ HG
        have HB1 := hide (hB.alloc hB.size (.cells #[.string nm, .slice ta tn tc, .slice ba bn bc, .slice da dn dc, .int .i64 bss, .slice ra rn rc, .slice ia im ic, .slice ea en ec] 56))
        by_cases d : 16 < en
        · have d' : (16 : Int) < (en : Int) := by omega
          go_wp2
          go_ret
          exact ⟨ret_bool (by rw [HR.out]; exact (HZ.out (decide_eq_false (by omega))).symm), HB1.out⟩
        · have d' : ¬ (16 : Int) < (en : Int) := by omega
          go_wp2
          go_roundw
          case rel => exact ⟨k + 1, by omega, by go_num, hide (HG.out (decide_eq_true (by omega))), HB1.out⟩
          case measure => simp [intOf]; omega
      · have HE := hide (rng_good (fun i => decide ((ms.getD i zMd).en ≤ 16)) n (fun j hj => HJ.out j (by omega)))
        go_wp2
        go_ret
        exact ⟨ret_bool (by rw [HR.out]; exact HE.out.symm), hB⟩
/-- Which module and which of its exports a name leads to. -/
def rsT (n : Nat) (ms : List Md) (s : ByteArray) : Option (Nat × Nat) :=
  if full s = true ∧ tbf n ms = true then (fst? (mdNm ms) (cutA s).data.toList n).bind fun i => (fst? (exNm (ms.getD i zMd).es) (cutB s).data.toList (ms.getD i zMd).en).map fun k => (i, k) else none
/-- WHAT Resolve GIVES. -/
def rsv (n : Nat) (ms : List Md) (s : ByteArray) : Value :=
  match rsT n ms s with
  | some (i, k) => .tuple #[.agg #[.int .i64 i, .int .i64 ((ms.getD i zMd).es.getD k zE).2.1, .int .i64 ((ms.getD i zMd).es.getD k zE).2.2], .bool true]
  | none => .tuple #[.agg #[.int .i64 0, .int .i64 0, .int .i64 0], .bool false]
end Go.Proofs.Ytngdgogjlpjjpac
