import Derived.Test.YtngdgogjlpjjpacK27
namespace Go.Proofs.Ytngdgogjlpjjpac
open Go.RowKit
set_option linter.unusedVariables false
set_option linter.unusedSimpArgs false
set_option maxRecDepth 100000

/-- A SLICE OF EXPORTS, their names of any length. -/
def TE (w : World) (a : Option Addr) (n cap : Nat) (es : List Ex) : Prop :=
  es.length = n ∧ n ≤ maxLen ∧ (∀ i, (es.getD i zE).1.size ≤ maxLen) ∧ (n ≠ 0 → ∃ b off, a = some ⟨b, off, none⟩ ∧ ∀ i, i < n → w.cell? ⟨b, off + i * 3, none⟩ = some (.string (es.getD i zE).1) ∧ w.cell? ⟨b, off + i * 3 + 1, none⟩ = some (.int .i64 (es.getD i zE).2.1) ∧ w.cell? ⟨b, off + i * 3 + 2, none⟩ = some (.int .i64 (es.getD i zE).2.2)) ∧ n ≤ cap
theorem TE.below {w w' : World} {a : Option Addr} {n cap : Nat} {es : List Ex} (h : TE w a n cap es) (hb : Below w.heap.size w w') : TE w' a n cap es := by
  obtain ⟨h1, h2, h3, h4, h5⟩ := h
  refine ⟨h1, h2, h3, fun hn => ?_, h5⟩
  obtain ⟨b, off, e, hc⟩ := h4 hn
  have key : ∀ o v, w.cell? ⟨b, o, none⟩ = some v → w'.cell? ⟨b, o, none⟩ = some v := fun o v hv => (hb.cell (World.block_lt_of_cell? w _ hv)).trans hv
  exact ⟨b, off, e, fun i hi => ⟨key _ _ (hc i hi).1, key _ _ (hc i hi).2.1, key _ _ (hc i hi).2.2⟩⟩
theorem TE.at {w : World} {a : Option Addr} {n cap : Nat} {es : List Ex} (h : TE w a n cap es) (i : Nat) (hi : i < n) : ∃ b off, a = some ⟨b, off, none⟩ ∧ w.cell? ⟨b, off + i * 3, none⟩ = some (.string (es.getD i zE).1) ∧ w.cell? ⟨b, off + i * 3 + 1, none⟩ = some (.int .i64 (es.getD i zE).2.1) ∧ w.cell? ⟨b, off + i * 3 + 2, none⟩ = some (.int .i64 (es.getD i zE).2.2) := by
  obtain ⟨b, off, e, hc⟩ := h.2.2.2.1 (by omega)
  exact ⟨b, off, e, hc i hi⟩
theorem TE.es {w : World} {a : Option Addr} {n cap : Nat} {es : List Ex} (h : TE w a n cap es) (hs : upS (fun j => (es.getD j zE).1.size) n ≤ 1048576) : ES w a n cap es := by
  refine ⟨h.1, h.2.1, fun s hm => ?_, h.2.2.2.1, h.2.2.2.2⟩
  obtain ⟨i, hi, rfl⟩ := List.getElem_of_mem hm
  have h1 := upS_mono (fun j => (es.getD j zE).1.size) (i + 1) n (by have := h.1; omega)
  have h2 : upS (fun j => (es.getD j zE).1.size) (i + 1) = upS (fun j => (es.getD j zE).1.size) i + (es.getD i zE).1.size := rfl
  have h3 : (es.getD i zE).1.size = es[i].1.size := by simp [List.getD_eq_getElem?_getD, hi]
  omega

set_option maxHeartbeats 1000000 in
theorem szExport_any (s : ByteArray) (b i l : Int) (w : World) (hs : s.size ≤ maxLen) (l0 : 0 ≤ l) (l1 : l ≤ 1048576) :
    Calls Try.prog 114 #[.agg #[.string s, .int .i64 b, .int .i64 i], .int .i64 l] w fun e w' => e = .returned (.int .i64 (szR l s.size)) ∧ Below w.heap.size w w' := by
  unfold maxLen at hs
  have HB := hide ((Below.refl w.heap.size w).alloc (Nat.le_refl _) (.cells #[.string s, .int .i64 b, .int .i64 i] 131))
  obtain ⟨r, hr⟩ : ∃ r, r = szR l s.size := ⟨_, rfl⟩
  rw [← hr]
  unfold szR at hr
  have HR := hide hr
  clear hr
  by_cases c : l < (s.size : Int)
  · have e := hide (show r = -1 by rw [HR.out, if_pos c])
    have c' : l - (s.size : Int) < 0 := by omega
    go_enter Try.func114, Try.ntmps114
    go_wp2
    go_ret
    exact ⟨ret_int e.out.symm, HB.out⟩
  · have e := hide (show r = l - s.size by rw [HR.out, if_neg c])
    have c' : ¬ l - (s.size : Int) < 0 := by omega
    go_enter Try.func114, Try.ntmps114
    go_wp2
    go_ret
    exact ⟨ret_int e.out.symm, HB.out⟩
end Go.Proofs.Ytngdgogjlpjjpac
