import Derived.Test.YtngdgogjlpjjpadGreatK14
import Derived.Deep.RegionLaw
import Derived.Deep.AppendLies
namespace Go.Proofs.YtngdgogjlpjjpadGreat
open Go.RowKit
set_option linter.unusedVariables false
set_option linter.unusedSimpArgs false
set_option maxRecDepth 100000

/-- WHAT A COPY OF A CORE IS. -/
def CorePost (w : World) (pc : Int) (n : Nat) (zs : List Int) (e : Ending) (w' : World) : Prop :=
  ∃ a' cap', e = .returned (.agg #[.int .i64 pc, .slice a' n cap']) ∧ OI w' w.heap.size (.slice a' n cap') zs ∧ Below w.heap.size w w'
theorem Blk.two' {w : World} {g : Nat} {a b : Value} {t : TypeId} (h : Blk w g #[a, b] t) : w.cell? ⟨g, 0, none⟩ = some a ∧ w.cell? ⟨g, 1, none⟩ = some b ∧ ∀ i, w.frozen? ⟨g, i, none⟩ = false :=
  ⟨by rw [h.cell]; rfl, by rw [h.cell]; rfl, fun i => h.frozen i⟩

set_option maxHeartbeats 1000000 in
theorem l3Core_some (pc : Int) (b off n cap : Nat) (zs : List Int) (w : World) (h : IS w (some ⟨b, off, none⟩) n cap zs) (hn0 : 0 < n) (hn : n ≤ 1048576) :
    Calls Tryz.prog 78 #[.agg #[.int .i64 pc, .slice (some ⟨b, off, none⟩) n cap]] w (CorePost w pc n zs) := by
  obtain ⟨i0, hi, hz0, hz1, hz2⟩ := info_parts infoI
  have hl := h.1
  have hB0 : Below w.heap.size w (((w.alloc (.cells #[.int .i64 pc, .slice (some ⟨b, off, none⟩) n cap] 58)).alloc (.cells #[.int .i64 0, .slice none 0 0] 58)).alloc (.cells #[] 3)) := (((Below.refl _ _).alloc (Nat.le_refl _) _).alloc (by simp) _).alloc (by simp; omega) _
  have h' := h.below hB0
  have kr := (Blk.new (w.alloc (.cells #[.int .i64 pc, .slice (some ⟨b, off, none⟩) n cap] 58)) #[.int .i64 0, .slice none 0 0] 58).alloc (.cells #[] 3)
  simp only [World.size_alloc] at kr
  have hown := hide (own_emptyI ((w.alloc (.cells #[.int .i64 pc, .slice (some ⟨b, off, none⟩) n cap] 58)).alloc (.cells #[.int .i64 0, .slice none 0 0] 58)))
  have hnews := hide (is_news h')
  have hone := hide (ints_oneCell .i64 zs)
  have hlen := hide (show (zs.map (Value.int .i64)).length = n * 1 by simp; omega)
  have HB := hide hB0
  have KR := hide kr
  have HH := hide h
  have kb := ((Blk.new w #[.int .i64 pc, .slice (some ⟨b, off, none⟩) n cap] 58).alloc (.cells #[.int .i64 0, .slice none 0 0] 58)).alloc (.cells #[] 3)
  have KB := hide kb
  clear hB0 kr h h' kb
  simp only [World.size_alloc] at hown
  go_enter Tryz.func78, Tryz.ntmps78
  go_wp2
  go_region_law (first
    | (refine step_append_lies _ rfl _ _ 29 rfl (w.heap.size + 1 + 1) 3 i0 (.int .i64 0) 1 8 Tryz.underlying29 hi hz0 hz1 hz2 rfl (by decide) (.slice (some ⟨w.heap.size + 1 + 1, 0, none⟩) 0 0) 0 [] rfl (by exact hown.out) ⟨b, off, none⟩ n cap (zs.map (Value.int .i64)) rfl hlen.out (by exact hnews.out) hone.out hn0 (by unfold maxLen; omega) (by omega) (by simp only [heap_drew, World.size_alloc]; omega) _ rfl ?_; intro g cap1 w1 hown1 hgr1 hat1 hlt1; obtain ⟨c1, c2, c3⟩ := (grown_blk hgr1 (by exact KB.out) (by intro e; have e' : some w.heap.size = some (w.heap.size + 1 + 1) := e; injection e' with e'; omega)).two'; have kr1 := hide (grown_blk hgr1 (by exact KR.out) (by intro e; have e' : some (w.heap.size + 1) = some (w.heap.size + 1 + 1) := e; injection e' with e'; omega)); obtain ⟨r1, r2, r3⟩ := kr1.out.two'))
  all_goals
    have hown2 : w1.ownsRow (w.heap.size + 1 + 1) 3 1 (.slice (some ⟨g, 0, none⟩) n cap1) n (zs.map (Value.int .i64)) := by simpa using hown1
    have o1 : OI w1 (w.heap.size + 1 + 1) (.slice (some ⟨g, 0, none⟩) n cap1) zs := ⟨by rw [hl]; exact hown2, HH.out.2.2.1⟩
    have hB1 : Below w.heap.size w w1 := HB.out.drew.grown hgr1 (by simp only [heap_drew, World.size_alloc]; omega) (fun k hk => by have e' : some (w.heap.size + 1 + 1) = some k := hk; injection e' with e'; omega)
    have hz := (kr1.out.set 0 (.int .i64 pc)).set 1 (.slice (some ⟨g, 0, none⟩) n cap1)
    have o2 := ((o1.other ⟨w.heap.size + 1, 0, none⟩ (.int .i64 pc) (by dsimp only; omega)).other ⟨w.heap.size + 1, 1, none⟩ (.slice (some ⟨g, 0, none⟩) n cap1) (by dsimp only; omega)).mono (base' := w.heap.size) (by omega)
    have hB2 := (hB1.setCell (p := ⟨w.heap.size + 1, 0, none⟩) (by dsimp only; omega) (.int .i64 pc)).setCell (p := ⟨w.heap.size + 1, 1, none⟩) (by dsimp only; omega) (.slice (some ⟨g, 0, none⟩) n cap1)
    have hz' : Blk ((w1.setCell ⟨w.heap.size + 1, 0, none⟩ (.int .i64 pc)).setCell ⟨w.heap.size + 1, 1, none⟩ (.slice (some ⟨g, 0, none⟩) n cap1)) (w.heap.size + 1) #[.int .i64 pc, .slice (some ⟨g, 0, none⟩) n cap1] 58 := by simpa using hz
    obtain ⟨p1, p2, p3⟩ := hz'.two'
    have HX := hide (And.intro o2 hB2)
    clear hz hz' o1 o2 hB1 hB2 hown1 hown2 hgr1 hat1 hlt1
    go_wp2
    exact bodyPost_ret (v := .agg #[.int .i64 pc, .slice (some ⟨g, 0, none⟩) n cap1]) (by simp [results, Tryz.results78, go_sem, p1, p2]) rfl ⟨some ⟨g, 0, none⟩, cap1, rfl, HX.out.1, HX.out.2⟩
end Go.Proofs.YtngdgogjlpjjpadGreat

namespace Go.Proofs.YtngdgogjlpjjpadGreat
open Go.RowKit
set_option linter.unusedVariables false
set_option linter.unusedSimpArgs false
set_option maxRecDepth 100000

/-- THE ADDRESS OF A LOAD OR STORE. -/
def atOf (rg : List Int) (a i : Int) : Int := (rg.getD a.toNat 0 + wide i) % 4294967296
theorem atOf_range (rg : List Int) (a i : Int) : 0 ≤ atOf rg a i ∧ atOf rg a i ≤ 4294967295 := by unfold atOf; omega
/-- WHAT A LOAD DOES. -/
def ldo (pc : Int) (rg : List Int) (n1 n2 n3 : Nat) (x1 x2 x3 : List Int) (rs : List Rg) (rn : Nat) (d a i s : Int) : Res :=
  if alw rs rn (atOf rg a i) s 1 = true then
    if (rd n1 n2 n3 x1 x2 (atOf rg a i) s).2 = 0 then ⟨0, 0, (pc + 4) % 4294967296, rg.set d.toNat (rd n1 n2 n3 x1 x2 (atOf rg a i) s).1, x1, x2, x3⟩
    else ⟨5, (rd n1 n2 n3 x1 x2 (atOf rg a i) s).2, pc, rg, x1, x2, x3⟩
  else ⟨5, 5, pc, rg, x1, x2, x3⟩
theorem turn_base {w w' : World} {g base : Nat} (h : Turn (fun j => j = g) w w') (hb : base ≤ g) : Turn (fun j => base ≤ j) w w' := h.mono (fun k hk => by have e : k = g := hk; omega)

set_option maxHeartbeats 1000000 in
theorem pload_any (op d a i s : Int) (g base : Nat) (pc : Int) (rg : List Int) (a1 a2 a3 : Option Addr) (n1 c1 n2 c2 n3 c3 : Nat) (x1 x2 x3 : List Int) (ra : Option Addr) (rn rc : Nat) (rs : List Rg) (w : World) (h : Pm w g base pc rg a1 a2 a3 n1 c1 n2 c2 n3 c3 x1 x2 x3 ra rn rc rs) (d0 : 0 ≤ d) (d1 : d ≤ 7) (a0 : 0 ≤ a) (a7 : a ≤ 7) (i0 : 0 ≤ i) (i1 : i ≤ 65535) :
    Calls Tryz.prog 242 #[.pointer (some ⟨g, 0, none⟩), .agg #[.int .i64 op, .int .i64 d, .int .i64 a, .int .i64 i], .int .i64 s] w (OpPost w g base a1 a2 n1 c1 n2 c2 ra rn rc rs (ldo pc rg n1 n2 n3 x1 x2 x3 rs rn d a i s)) := by
  have hB0 : Below w.heap.size w ((w.alloc (.cells #[.int .i64 op, .int .i64 d, .int .i64 a, .int .i64 i] 124)).alloc (.cells #[.int .i64 0, .int .i64 0] 141)) := ((Below.refl _ _).alloc (Nat.le_refl _) _).alloc (by simp) _
  have kb := (Blk.new w #[.int .i64 op, .int .i64 d, .int .i64 a, .int .i64 i] 124).alloc (.cells #[.int .i64 0, .int .i64 0] 141)
  have ke := Blk.new (w.alloc (.cells #[.int .i64 op, .int .i64 d, .int .i64 a, .int .i64 i] 124)) #[.int .i64 0, .int .i64 0] 141
  simp only [World.size_alloc] at ke
  have h0 := h.below hB0
  have hlt := h.pr.blk.lt
  have HN := hide (fun w h => pnear_any op d a i g pc rg (.slice a1 n1 c1) (.slice a2 n2 c2) (.slice a3 n3 c3) (.slice ra rn rc) w h a0 a7 i0 i1)
  have hr := rd_range n1 n2 n3 x1 x2 (atOf rg a i) s h.own.1.2 h.own.2.1.2
  obtain ⟨z0, z1⟩ := atOf_range rg a i
  obtain ⟨r, hr0⟩ : ∃ r, r = ldo pc rg n1 n2 n3 x1 x2 x3 rs rn d a i s := ⟨_, rfl⟩
  rw [← hr0]
  unfold ldo at hr0
  rw [show (rg.getD a.toNat 0 + wide i) % 4294967296 = atOf rg a i from rfl] at HN
  generalize atOf rg a i = z at *
  have HA := hide (fun w h => iAllowed_any ra rn rc rs z s 1 w h ⟨by omega, by omega⟩)
  have HR := hide (fun w h1 h2 => iRead_any a1 a2 a3 n1 c1 n2 c2 n3 c3 x1 x2 x3 z s w h1 h2 (by omega))
  generalize alw rs rn z s 1 = A at *
  generalize rd n1 n2 n3 x1 x2 z s = R at *
  obtain ⟨v, f⟩ := R
  dsimp only at hr HR hr0
  have HR0 := hide hr0
  clear hr0
  obtain ⟨v0, v1⟩ := hr
  have HP := hide (fun w h => pput_any op d a i v g pc rg (.slice a1 n1 c1) (.slice a2 n2 c2) (.slice a3 n3 c3) (.slice ra rn rc) w h d0 d1 v0 v1)
  have HBB := hide h.bb
  go_enter Tryz.func242, Tryz.ntmps242
  go_wp2_with fail
  refine (HN.out _ h0.pr).mono ?_
  rintro e w1 ⟨rfl, hb1⟩
  have H1 := h0.below hb1
  have kb1 := kb.below hb1
  have ke1 := ke.below hb1
  have hB1 := hB0.trans (hb1.mono (by simp; omega))
  obtain ⟨m1, m2, m3, m4⟩ := H1.pr.mem
  clear hb1 h0 kb ke hB0 h
  go_wp2_with fail
  refine (HA.out _ H1.rs).mono ?_
  rintro e w2 ⟨rfl, hb2⟩
  have H2 := H1.below hb2
  have kb2 := kb1.below hb2
  have ke2 := ke1.below hb2
  have hB2 := hB1.trans (hb2.mono hB1.size)
  clear hb2 m1 m2 m3 m4 H1 kb1 ke1 hB1
  obtain ⟨m1, m2, m3, m4⟩ := H2.pr.mem
  obtain ⟨e1, e2, e3⟩ := ke2.two'
  have hG : w.heap.size + 1 ≠ g := by omega
  have hbG : base ≤ w.heap.size + 1 := by have := HBB.out; omega
  have T2 : Turn (fun j => base ≤ j) w w2 := turn_below hB2
  cases A
  · have hr := HR0.out
    rw [if_neg (by simp)] at hr
    subst hr
    obtain ⟨hp, y0, y1⟩ := op_done H2 ke2 hG hbG T2 (keeps_below hB2) (by omega) 5 5
    have HX := hide hp
    clear hp H2 ke2 kb2 T2
    go_wp2
    exact bodyPost_ret (v := .agg #[.int .i64 5, .int .i64 5]) (by simp [results, Tryz.results242, go_sem, y0, y1]) rfl HX.out
  · go_wp2_with fail
    refine (HR.out _ H2.own.1.bs H2.own.2.1.bs).mono ?_
    rintro e w3 ⟨rfl, hb3⟩
    have H3 := H2.below hb3
    have kb3 := kb2.below hb3
    have ke3 := ke2.below hb3
    have hB3 := hB2.trans (hb3.mono hB2.size)
    have T3 : Turn (fun j => base ≤ j) w w3 := turn_below hB3
    clear hb3 m1 m2 m3 m4 e1 e2 e3 H2 kb2 ke2 hB2 T2
    obtain ⟨e1, e2, e3⟩ := ke3.two'
    obtain ⟨q1, q2, q3, q4, q5⟩ := kb3.four'
    by_cases hf : f = 0
    · subst hf
      have hr := HR0.out
      simp only [reduceIte] at hr
      subst hr
      go_wp2_with fail
      refine (HP.out _ H3.pr).mono ?_
      rintro e w4 ⟨rfl, p4, t4⟩
      have H4 := H3.turn t4 p4
      have ke4 := turn_blk t4 ke3 (fun e => hG e)
      have T4 := T3.trans (turn_base t4 HBB.out)
      obtain ⟨hp, y0, y1⟩ := op_done H4 ke4 hG hbG T4 ((keeps_below hB3).trans (keeps_turn t4)) (by omega) 0 0
      have HX := hide hp
      clear hp H4 T4 t4 p4 q1 q2 q3 q4 q5 e1 e2 e3 H3 kb3 T3
      obtain ⟨e1, e2, e3⟩ := ke4.two'
      clear ke4 ke3
      go_wp2
      exact bodyPost_ret (v := .agg #[.int .i64 0, .int .i64 0]) (by simp [results, Tryz.results242, go_sem, y0, y1]) rfl HX.out
    · have hf' : (f != 0) = true := by simpa using hf
      have hr := HR0.out
      simp only [reduceIte, hf] at hr
      subst hr
      obtain ⟨hp, y0, y1⟩ := op_done H3 ke3 hG hbG T3 (keeps_below hB3) (by omega) 5 f
      have HX := hide hp
      clear hp H3 ke3 kb3 T3
      go_wp2
      exact bodyPost_ret (v := .agg #[.int .i64 5, .int .i64 f]) (by simp [results, Tryz.results242, go_sem, y0, y1]) rfl HX.out
end Go.Proofs.YtngdgogjlpjjpadGreat

namespace Go.Proofs.YtngdgogjlpjjpadGreat
open Go.RowKit
set_option linter.unusedVariables false
set_option linter.unusedSimpArgs false
set_option maxRecDepth 100000

/-- WHAT A STORE DOES. -/
def sto (pc : Int) (rg : List Int) (n1 n2 n3 : Nat) (x1 x2 x3 : List Int) (rs : List Rg) (rn : Nat) (d a i s : Int) : Res :=
  if alw rs rn (atOf rg a i) s 2 = true then
    if (wrm n1 n2 n3 x1 x2 x3 (atOf rg a i) s (rg.getD d.toNat 0)).2.2.2 = 0 then ⟨0, 0, (pc + 4) % 4294967296, rg, (wrm n1 n2 n3 x1 x2 x3 (atOf rg a i) s (rg.getD d.toNat 0)).1, (wrm n1 n2 n3 x1 x2 x3 (atOf rg a i) s (rg.getD d.toNat 0)).2.1, (wrm n1 n2 n3 x1 x2 x3 (atOf rg a i) s (rg.getD d.toNat 0)).2.2.1⟩
    else ⟨5, (wrm n1 n2 n3 x1 x2 x3 (atOf rg a i) s (rg.getD d.toNat 0)).2.2.2, pc, rg, (wrm n1 n2 n3 x1 x2 x3 (atOf rg a i) s (rg.getD d.toNat 0)).1, (wrm n1 n2 n3 x1 x2 x3 (atOf rg a i) s (rg.getD d.toNat 0)).2.1, (wrm n1 n2 n3 x1 x2 x3 (atOf rg a i) s (rg.getD d.toNat 0)).2.2.1⟩
  else ⟨5, 5, pc, rg, x1, x2, x3⟩
theorem pr_set11 {w : World} {g : Nat} {pc : Int} {rg : List Int} {s1 s2 s3 s4 v : Value} (hl : rg.length = 8) (h : Blk w g ((#[Value.int .u32 pc] ++ (rg.map (Value.int .u32)).toArray ++ #[s1, s2, s3, s4]).setIfInBounds (9 + 2) v) 147) :
    Blk w g (#[Value.int .u32 pc] ++ (rg.map (Value.int .u32)).toArray ++ #[s1, s2, v, s4]) 147 := by
  have e : (#[Value.int .u32 pc] ++ (rg.map (Value.int .u32)).toArray ++ #[s1, s2, s3, s4]).setIfInBounds (9 + 2) v = #[Value.int .u32 pc] ++ (rg.map (Value.int .u32)).toArray ++ #[s1, s2, v, s4] := by
    apply Array.toList_inj.1
    rw [Array.toList_setIfInBounds]
    simp only [Array.toList_append]
    rw [List.set_append_right _ _ (by simp; omega)]
    simp [hl]
  rw [e] at h
  exact h
/-- writeInto through the processor -/
theorem pm_write {w : World} {g base : Nat} {pc : Int} {rg : List Int} {a1 a2 a3 : Option Addr} {n1 c1 n2 c2 n3 c3 : Nat} {x1 x2 x3 : List Int} {ra : Option Addr} {rn rc : Nat} {rs : List Rg} (h : Pm w g base pc rg a1 a2 a3 n1 c1 n2 c2 n3 c3 x1 x2 x3 ra rn rc rs)
    (p s v : Int) (hv : 0 ≤ v ∧ v ≤ 4294967295) (hp : p ≤ 4294967295) :
    Calls Tryz.prog 273 #[.pointer (some ⟨g, 9, none⟩), .int .i64 p, .int .i64 s, .int .i64 v] w fun e w' => e = .returned (.int .i64 (wrm n1 n2 n3 x1 x2 x3 p s v).2.2.2) ∧
      ∃ a3' m3 d3, Pm w' g base pc rg a1 a2 a3' n1 c1 n2 c2 m3 d3 (wrm n1 n2 n3 x1 x2 x3 p s v).1 (wrm n1 n2 n3 x1 x2 x3 p s v).2.1 (wrm n1 n2 n3 x1 x2 x3 p s v).2.2.1 ra rn rc rs ∧ Turn (fun j => base ≤ j) w w' ∧ Keeps g w w' := by
  obtain ⟨m1, m2, m3, m4⟩ := h.pr.mem
  have hlt := h.pr.blk.lt
  have hbk := h.pr.blk
  have hl := h.pr.len
  have hbase : base ≤ w.heap.size := by have := h.bb; omega
  obtain ⟨cs, hcs⟩ : ∃ cs, cs = #[Value.int .u32 pc] ++ (rg.map (Value.int .u32)).toArray ++ #[.slice a1 n1 c1, .slice a2 n2 c2, .slice a3 n3 c3, .slice ra rn rc] := ⟨_, rfl⟩
  rw [← hcs] at hbk
  have c9 : cs[9]? = some (.slice a1 n1 c1) := by rw [← hbk.cell]; exact m1
  have c10 : cs[9 + 1]? = some (.slice a2 n2 c2) := by rw [← hbk.cell]; exact m2
  have c11 : cs[9 + 2]? = some (.slice a3 n3 c3) := by rw [← hbk.cell]; exact m3
  refine (writeInto_any a1 a2 a3 n1 c1 n2 c2 n3 c3 g 9 base cs 147 x1 x2 x3 p s v w hbk (by decide) c9 c10 c11 h.own h.far hbase (by omega) (by omega)).mono ?_
  rintro e w' ⟨a3', k3, d3, rfl, hk, ho, hf, ht⟩
  subst hcs
  have hb := h.bb
  have tb : Turn (fun j => base ≤ j) w w' := ht.mono (fun k e => by
    rcases e with e | e | e
    · show base ≤ k; omega
    · exact (h.own.2.1.lt k e).1
    · exact (h.own.2.2.1.lt k e).1)
  refine ⟨rfl, a3', k3, d3, ⟨⟨pr_set11 h.pr.len hk, h.pr.len, h.pr.pcw, h.pr.rgw⟩, ho, ?_, h.bb, ?_, h.low⟩, tb, fun G u t hG hne htt => ?_⟩
  · rintro v (rfl | rfl | rfl)
    · exact h.far _ (.inl rfl)
    · exact h.far _ (.inr (.inl rfl))
    · exact hf
  · exact turn_rs tb h.rs (fun k hk b off ha e => by have h1 := h.low b off ha; have hk' : base ≤ k := hk; omega)
  · refine turn_blk ht hG ?_
    rintro (e | e | e)
    · exact hne e
    · exact ob_ne h.own.2.1 hG htt e
    · exact ob_ne h.own.2.2.1 hG htt e

set_option maxHeartbeats 1000000 in
theorem pstore_any (op d a i s : Int) (g base : Nat) (pc : Int) (rg : List Int) (a1 a2 a3 : Option Addr) (n1 c1 n2 c2 n3 c3 : Nat) (x1 x2 x3 : List Int) (ra : Option Addr) (rn rc : Nat) (rs : List Rg) (w : World) (h : Pm w g base pc rg a1 a2 a3 n1 c1 n2 c2 n3 c3 x1 x2 x3 ra rn rc rs) (d0 : 0 ≤ d) (d1 : d ≤ 7) (a0 : 0 ≤ a) (a7 : a ≤ 7) (i0 : 0 ≤ i) (i1 : i ≤ 65535) :
    Calls Tryz.prog 246 #[.pointer (some ⟨g, 0, none⟩), .agg #[.int .i64 op, .int .i64 d, .int .i64 a, .int .i64 i], .int .i64 s] w (OpPost w g base a1 a2 n1 c1 n2 c2 ra rn rc rs (sto pc rg n1 n2 n3 x1 x2 x3 rs rn d a i s)) := by
  have hB0 : Below w.heap.size w ((w.alloc (.cells #[.int .i64 op, .int .i64 d, .int .i64 a, .int .i64 i] 124)).alloc (.cells #[.int .i64 0, .int .i64 0] 141)) := ((Below.refl _ _).alloc (Nat.le_refl _) _).alloc (by simp) _
  have kb := (Blk.new w #[.int .i64 op, .int .i64 d, .int .i64 a, .int .i64 i] 124).alloc (.cells #[.int .i64 0, .int .i64 0] 141)
  have ke := Blk.new (w.alloc (.cells #[.int .i64 op, .int .i64 d, .int .i64 a, .int .i64 i] 124)) #[.int .i64 0, .int .i64 0] 141
  simp only [World.size_alloc] at ke
  have h0 := h.below hB0
  have hlt := h.pr.blk.lt
  have HN := hide (fun w h => pnear_any op d a i g pc rg (.slice a1 n1 c1) (.slice a2 n2 c2) (.slice a3 n3 c3) (.slice ra rn rc) w h a0 a7 i0 i1)
  have HD := hide (fun w h => pd_any op d a i g pc rg (.slice a1 n1 c1) (.slice a2 n2 c2) (.slice a3 n3 c3) (.slice ra rn rc) w h d0 d1)
  have hv := h.pr.range d.toNat
  obtain ⟨z0, z1⟩ := atOf_range rg a i
  obtain ⟨r, hr0⟩ : ∃ r, r = sto pc rg n1 n2 n3 x1 x2 x3 rs rn d a i s := ⟨_, rfl⟩
  rw [← hr0]
  unfold sto at hr0
  rw [show (rg.getD a.toNat 0 + wide i) % 4294967296 = atOf rg a i from rfl] at HN
  generalize atOf rg a i = z at *
  generalize rg.getD d.toNat 0 = v at *
  have HA := hide (fun w h => iAllowed_any ra rn rc rs z s 2 w h ⟨by omega, by omega⟩)
  have HW := hide (fun w (h : Pm w g base pc rg a1 a2 a3 n1 c1 n2 c2 n3 c3 x1 x2 x3 ra rn rc rs) => pm_write h z s v hv (by omega))
  obtain ⟨v0, v1⟩ := hv
  have HV := hide (show IntKind.i64.wrap v = v by rw [IntKind.wrap_i64]; omega)
  generalize alw rs rn z s 2 = A at *
  generalize wrm n1 n2 n3 x1 x2 x3 z s v = Q at *
  obtain ⟨q1, q2, q3, f⟩ := Q
  dsimp only at HW hr0
  have HR0 := hide hr0
  clear hr0
  have HX := hide (fun (w : World) (a3 : Option Addr) (n3 c3 : Nat) (h : Pr w g pc rg (.slice a1 n1 c1) (.slice a2 n2 c2) (.slice a3 n3 c3) (.slice ra rn rc)) => pnext_any g pc rg _ _ _ _ w h)
  have HBB := hide h.bb
  go_enter Tryz.func246, Tryz.ntmps246
  go_wp2_with fail
  refine (HN.out _ h0.pr).mono ?_
  rintro e w1 ⟨rfl, hb1⟩
  have H1 := h0.below hb1
  have kb1 := kb.below hb1
  have ke1 := ke.below hb1
  have hB1 := hB0.trans (hb1.mono (by simp; omega))
  obtain ⟨m1, m2, m3, m4⟩ := H1.pr.mem
  clear hb1 h0 kb ke hB0 h
  go_wp2_with fail
  refine (HA.out _ H1.rs).mono ?_
  rintro e w2 ⟨rfl, hb2⟩
  have H2 := H1.below hb2
  have kb2 := kb1.below hb2
  have ke2 := ke1.below hb2
  have hB2 := hB1.trans (hb2.mono hB1.size)
  clear hb2 m1 m2 m3 m4 H1 kb1 ke1 hB1
  obtain ⟨e1, e2, e3⟩ := ke2.two'
  have hG : w.heap.size + 1 ≠ g := by omega
  have hbG : base ≤ w.heap.size + 1 := by have := HBB.out; omega
  have T2 : Turn (fun j => base ≤ j) w w2 := turn_below hB2
  cases A
  · have hr := HR0.out
    rw [if_neg (by simp)] at hr
    subst hr
    obtain ⟨hp, y0, y1⟩ := op_done H2 ke2 hG hbG T2 (keeps_below hB2) (by omega) 5 5
    have HX := hide hp
    clear hp H2 ke2 kb2 T2
    go_wp2
    exact bodyPost_ret (v := .agg #[.int .i64 5, .int .i64 5]) (by simp [results, Tryz.results246, go_sem, y0, y1]) rfl HX.out
  · obtain ⟨k1, k2, k3, k4, k5⟩ := kb2.four'
    obtain ⟨m1, m2, m3, m4⟩ := H2.pr.mem
    go_wp2_with fail
    go_region_held3 (fun w' => w'.cell? ⟨w.heap.size, 0, none⟩ = some (.int .i64 op) ∧ w'.cell? ⟨w.heap.size, 1, none⟩ = some (.int .i64 d) ∧ w'.cell? ⟨w.heap.size, 2, none⟩ = some (.int .i64 a) ∧ w'.cell? ⟨w.heap.size, 3, none⟩ = some (.int .i64 i)) (go_keep)
      (first
        | (go_at_call 228; refine (HD.out _ ?_).mono ?_; exact ⟨H2.pr.blk, H2.pr.len, H2.pr.pcw, H2.pr.rgw⟩; rintro e w3 ⟨rfl, hb3⟩; replace hb3 := undrew hb3; obtain ⟨k1, k2, k3, k4, k5⟩ := (kb2.below hb3).four')
        | (go_at_call 273; rw [HV.out]; refine (HW.out _ (H2.below hb3)).mono ?_; rintro e w4 ⟨rfl, b3, l3, d3, H4, t4, k4⟩; obtain ⟨k1, k2, k3, k4', k5⟩ := (k4 _ _ _ (kb2.below hb3) (by omega) (by decide)).four'))
    have T4 : Turn (fun j => base ≤ j) w w4 := T2.trans ((turn_below hb3).trans t4)
    have ke4 := k4 _ _ _ (ke2.below hb3) hG (by decide)
    have K4 : Keeps g w w4 := (keeps_below (hB2.trans (hb3.mono hB2.size))).trans k4
    clear k1 k2 k3 k4 k4' k5 m1 m2 m3 m4 e1 e2 e3 hb3 t4 T2 kb2 ke2 hB2 H2
    obtain ⟨e1, e2, e3⟩ := ke4.two'
    by_cases hf : f = 0
    · subst hf
      have hr := HR0.out
      simp only [reduceIte] at hr
      subst hr
      go_wp2_with fail
      refine (HX.out _ _ _ _ H4.pr).mono ?_
      rintro e w5 ⟨rfl, rfl⟩
      have hc := H4.pr.pc
      have hfz := H4.pr.blk.frozen 0
      obtain ⟨u, hu⟩ : ∃ u, u = (pc + 4) % 4294967296 := ⟨_, rfl⟩
      have u0 : 0 ≤ u ∧ u ≤ 4294967295 := by omega
      rw [← hu]
      have HU := hide hu
      clear hu
      have H5 := H4.turn (turn_setg w4 g 0 (.int .u32 u)) (H4.pr.setpc u u0)
      have ke5 := ke4.other ⟨g, 0, none⟩ (.int .u32 u) hG
      have T5 := T4.trans (turn_base (turn_setg w4 g 0 (.int .u32 u)) HBB.out)
      obtain ⟨hp, y0, y1⟩ := op_done H5 ke5 hG hbG T5 (K4.trans (keeps_turn (turn_setg w4 g 0 (.int .u32 u)))) (by omega) 0 0
      have HY := hide hp
      obtain ⟨e4, e5, e6⟩ := ke5.two'
      clear hp H4 H5 T4 T5 ke4 ke5
      go_wp2
      exact bodyPost_ret (v := .agg #[.int .i64 0, .int .i64 0]) (by simp [results, Tryz.results246, go_sem, y0, y1]) rfl (by rw [← HU.out]; exact HY.out)
    · have hf' : (f != 0) = true := by simpa using hf
      have hr := HR0.out
      simp only [reduceIte, hf] at hr
      subst hr
      obtain ⟨hp, y0, y1⟩ := op_done H4 ke4 hG hbG T4 K4 (by omega) 5 f
      have HY := hide hp
      clear hp H4 ke4 T4
      go_wp2
      exact bodyPost_ret (v := .agg #[.int .i64 5, .int .i64 f]) (by simp [results, Tryz.results246, go_sem, y0, y1]) rfl HY.out
end Go.Proofs.YtngdgogjlpjjpadGreat
