import Derived.Test.YtngdgogjlpjjpadGreatK21
import Derived.Test.YtngdgogjlpjjpadGreatK22
namespace Go.Proofs.YtngdgogjlpjjpadGreat
open Go.RowKit
set_option linter.unusedVariables false
set_option linter.unusedSimpArgs false
set_option maxRecDepth 100000

/-- WHAT AN INSTRUCTION DOES. -/
def opr (op d a i pc : Int) (rg : List Int) (n1 n2 n3 : Nat) (x1 x2 x3 : List Int) (rs : List Rg) (rn : Nat) : Res :=
  if op = 14 then ldo pc rg n1 n2 n3 x1 x2 x3 rs rn d a i 1 else if op = 15 then ldo pc rg n1 n2 n3 x1 x2 x3 rs rn d a i 2 else if op = 16 then ldo pc rg n1 n2 n3 x1 x2 x3 rs rn d a i 4
  else if op = 17 then sto pc rg n1 n2 n3 x1 x2 x3 rs rn d a i 1 else if op = 18 then sto pc rg n1 n2 n3 x1 x2 x3 rs rn d a i 2 else if op = 19 then sto pc rg n1 n2 n3 x1 x2 x3 rs rn d a i 4
  else if 2 ≤ op ∧ op ≤ 13 then ⟨0, 0, (pc + 4) % 4294967296, rg.set d.toNat (alu op i (rg.getD d.toNat 0) (rg.getD a.toNat 0)), x1, x2, x3⟩
  else ⟨(ev op i ((pc + 4) % 4294967296)).1, (ev op i ((pc + 4) % 4294967296)).2, if jmp op (rg.getD d.toNat 0) = true then (pc + 4 + 4 * wide i) % 4294967296 else (pc + 4) % 4294967296, rg, x1, x2, x3⟩

theorem opr1_any (d a i : Int) (g base : Nat) (pc : Int) (rg : List Int) (a1 a2 a3 : Option Addr) (n1 c1 n2 c2 n3 c3 : Nat) (x1 x2 x3 : List Int) (ra : Option Addr) (rn rc : Nat) (rs : List Rg) (w : World) (h : Pm w g base pc rg a1 a2 a3 n1 c1 n2 c2 n3 c3 x1 x2 x3 ra rn rc rs) (d0 : 0 ≤ d) (d1 : d ≤ 7) (a0 : 0 ≤ a) (a7 : a ≤ 7) (i0 : 0 ≤ i) (i1 : i ≤ 65535) :
    Calls Tryz.prog 223 #[.pointer (some ⟨g, 0, none⟩), .agg #[.int .i64 1, .int .i64 d, .int .i64 a, .int .i64 i]] w (OpPost w g base a1 a2 n1 c1 n2 c2 ra rn rc rs (opr 1 d a i pc rg n1 n2 n3 x1 x2 x3 rs rn)) := by
  exact op1_any d a i g base pc rg a1 a2 a3 n1 c1 n2 c2 n3 c3 x1 x2 x3 ra rn rc rs w h d0 d1 a0 a7 i0 i1

theorem opr2_any (d a i : Int) (g base : Nat) (pc : Int) (rg : List Int) (a1 a2 a3 : Option Addr) (n1 c1 n2 c2 n3 c3 : Nat) (x1 x2 x3 : List Int) (ra : Option Addr) (rn rc : Nat) (rs : List Rg) (w : World) (h : Pm w g base pc rg a1 a2 a3 n1 c1 n2 c2 n3 c3 x1 x2 x3 ra rn rc rs) (d0 : 0 ≤ d) (d1 : d ≤ 7) (a0 : 0 ≤ a) (a7 : a ≤ 7) (i0 : 0 ≤ i) (i1 : i ≤ 65535) :
    Calls Tryz.prog 225 #[.pointer (some ⟨g, 0, none⟩), .agg #[.int .i64 2, .int .i64 d, .int .i64 a, .int .i64 i]] w (OpPost w g base a1 a2 n1 c1 n2 c2 ra rn rc rs (opr 2 d a i pc rg n1 n2 n3 x1 x2 x3 rs rn)) := by
  exact op2_any d a i g base pc rg a1 a2 a3 n1 c1 n2 c2 n3 c3 x1 x2 x3 ra rn rc rs w h d0 d1 a0 a7 i0 i1

theorem opr3_any (d a i : Int) (g base : Nat) (pc : Int) (rg : List Int) (a1 a2 a3 : Option Addr) (n1 c1 n2 c2 n3 c3 : Nat) (x1 x2 x3 : List Int) (ra : Option Addr) (rn rc : Nat) (rs : List Rg) (w : World) (h : Pm w g base pc rg a1 a2 a3 n1 c1 n2 c2 n3 c3 x1 x2 x3 ra rn rc rs) (d0 : 0 ≤ d) (d1 : d ≤ 7) (a0 : 0 ≤ a) (a7 : a ≤ 7) (i0 : 0 ≤ i) (i1 : i ≤ 65535) :
    Calls Tryz.prog 227 #[.pointer (some ⟨g, 0, none⟩), .agg #[.int .i64 3, .int .i64 d, .int .i64 a, .int .i64 i]] w (OpPost w g base a1 a2 n1 c1 n2 c2 ra rn rc rs (opr 3 d a i pc rg n1 n2 n3 x1 x2 x3 rs rn)) := by
  exact op3_any d a i g base pc rg a1 a2 a3 n1 c1 n2 c2 n3 c3 x1 x2 x3 ra rn rc rs w h d0 d1 a0 a7 i0 i1

theorem opr4_any (d a i : Int) (g base : Nat) (pc : Int) (rg : List Int) (a1 a2 a3 : Option Addr) (n1 c1 n2 c2 n3 c3 : Nat) (x1 x2 x3 : List Int) (ra : Option Addr) (rn rc : Nat) (rs : List Rg) (w : World) (h : Pm w g base pc rg a1 a2 a3 n1 c1 n2 c2 n3 c3 x1 x2 x3 ra rn rc rs) (d0 : 0 ≤ d) (d1 : d ≤ 7) (a0 : 0 ≤ a) (a7 : a ≤ 7) (i0 : 0 ≤ i) (i1 : i ≤ 65535) :
    Calls Tryz.prog 229 #[.pointer (some ⟨g, 0, none⟩), .agg #[.int .i64 4, .int .i64 d, .int .i64 a, .int .i64 i]] w (OpPost w g base a1 a2 n1 c1 n2 c2 ra rn rc rs (opr 4 d a i pc rg n1 n2 n3 x1 x2 x3 rs rn)) := by
  exact op4_any d a i g base pc rg a1 a2 a3 n1 c1 n2 c2 n3 c3 x1 x2 x3 ra rn rc rs w h d0 d1 a0 a7 i0 i1

theorem opr5_any (d a i : Int) (g base : Nat) (pc : Int) (rg : List Int) (a1 a2 a3 : Option Addr) (n1 c1 n2 c2 n3 c3 : Nat) (x1 x2 x3 : List Int) (ra : Option Addr) (rn rc : Nat) (rs : List Rg) (w : World) (h : Pm w g base pc rg a1 a2 a3 n1 c1 n2 c2 n3 c3 x1 x2 x3 ra rn rc rs) (d0 : 0 ≤ d) (d1 : d ≤ 7) (a0 : 0 ≤ a) (a7 : a ≤ 7) (i0 : 0 ≤ i) (i1 : i ≤ 65535) :
    Calls Tryz.prog 231 #[.pointer (some ⟨g, 0, none⟩), .agg #[.int .i64 5, .int .i64 d, .int .i64 a, .int .i64 i]] w (OpPost w g base a1 a2 n1 c1 n2 c2 ra rn rc rs (opr 5 d a i pc rg n1 n2 n3 x1 x2 x3 rs rn)) := by
  exact op5_any d a i g base pc rg a1 a2 a3 n1 c1 n2 c2 n3 c3 x1 x2 x3 ra rn rc rs w h d0 d1 a0 a7 i0 i1

theorem opr6_any (d a i : Int) (g base : Nat) (pc : Int) (rg : List Int) (a1 a2 a3 : Option Addr) (n1 c1 n2 c2 n3 c3 : Nat) (x1 x2 x3 : List Int) (ra : Option Addr) (rn rc : Nat) (rs : List Rg) (w : World) (h : Pm w g base pc rg a1 a2 a3 n1 c1 n2 c2 n3 c3 x1 x2 x3 ra rn rc rs) (d0 : 0 ≤ d) (d1 : d ≤ 7) (a0 : 0 ≤ a) (a7 : a ≤ 7) (i0 : 0 ≤ i) (i1 : i ≤ 65535) :
    Calls Tryz.prog 232 #[.pointer (some ⟨g, 0, none⟩), .agg #[.int .i64 6, .int .i64 d, .int .i64 a, .int .i64 i]] w (OpPost w g base a1 a2 n1 c1 n2 c2 ra rn rc rs (opr 6 d a i pc rg n1 n2 n3 x1 x2 x3 rs rn)) := by
  exact op6_any d a i g base pc rg a1 a2 a3 n1 c1 n2 c2 n3 c3 x1 x2 x3 ra rn rc rs w h d0 d1 a0 a7 i0 i1

theorem opr7_any (d a i : Int) (g base : Nat) (pc : Int) (rg : List Int) (a1 a2 a3 : Option Addr) (n1 c1 n2 c2 n3 c3 : Nat) (x1 x2 x3 : List Int) (ra : Option Addr) (rn rc : Nat) (rs : List Rg) (w : World) (h : Pm w g base pc rg a1 a2 a3 n1 c1 n2 c2 n3 c3 x1 x2 x3 ra rn rc rs) (d0 : 0 ≤ d) (d1 : d ≤ 7) (a0 : 0 ≤ a) (a7 : a ≤ 7) (i0 : 0 ≤ i) (i1 : i ≤ 65535) :
    Calls Tryz.prog 234 #[.pointer (some ⟨g, 0, none⟩), .agg #[.int .i64 7, .int .i64 d, .int .i64 a, .int .i64 i]] w (OpPost w g base a1 a2 n1 c1 n2 c2 ra rn rc rs (opr 7 d a i pc rg n1 n2 n3 x1 x2 x3 rs rn)) := by
  exact op7_any d a i g base pc rg a1 a2 a3 n1 c1 n2 c2 n3 c3 x1 x2 x3 ra rn rc rs w h d0 d1 a0 a7 i0 i1

theorem opr8_any (d a i : Int) (g base : Nat) (pc : Int) (rg : List Int) (a1 a2 a3 : Option Addr) (n1 c1 n2 c2 n3 c3 : Nat) (x1 x2 x3 : List Int) (ra : Option Addr) (rn rc : Nat) (rs : List Rg) (w : World) (h : Pm w g base pc rg a1 a2 a3 n1 c1 n2 c2 n3 c3 x1 x2 x3 ra rn rc rs) (d0 : 0 ≤ d) (d1 : d ≤ 7) (a0 : 0 ≤ a) (a7 : a ≤ 7) (i0 : 0 ≤ i) (i1 : i ≤ 65535) :
    Calls Tryz.prog 235 #[.pointer (some ⟨g, 0, none⟩), .agg #[.int .i64 8, .int .i64 d, .int .i64 a, .int .i64 i]] w (OpPost w g base a1 a2 n1 c1 n2 c2 ra rn rc rs (opr 8 d a i pc rg n1 n2 n3 x1 x2 x3 rs rn)) := by
  exact op8_any d a i g base pc rg a1 a2 a3 n1 c1 n2 c2 n3 c3 x1 x2 x3 ra rn rc rs w h d0 d1 a0 a7 i0 i1

theorem opr9_any (d a i : Int) (g base : Nat) (pc : Int) (rg : List Int) (a1 a2 a3 : Option Addr) (n1 c1 n2 c2 n3 c3 : Nat) (x1 x2 x3 : List Int) (ra : Option Addr) (rn rc : Nat) (rs : List Rg) (w : World) (h : Pm w g base pc rg a1 a2 a3 n1 c1 n2 c2 n3 c3 x1 x2 x3 ra rn rc rs) (d0 : 0 ≤ d) (d1 : d ≤ 7) (a0 : 0 ≤ a) (a7 : a ≤ 7) (i0 : 0 ≤ i) (i1 : i ≤ 65535) :
    Calls Tryz.prog 236 #[.pointer (some ⟨g, 0, none⟩), .agg #[.int .i64 9, .int .i64 d, .int .i64 a, .int .i64 i]] w (OpPost w g base a1 a2 n1 c1 n2 c2 ra rn rc rs (opr 9 d a i pc rg n1 n2 n3 x1 x2 x3 rs rn)) := by
  exact op9_any d a i g base pc rg a1 a2 a3 n1 c1 n2 c2 n3 c3 x1 x2 x3 ra rn rc rs w h d0 d1 a0 a7 i0 i1

theorem opr10_any (d a i : Int) (g base : Nat) (pc : Int) (rg : List Int) (a1 a2 a3 : Option Addr) (n1 c1 n2 c2 n3 c3 : Nat) (x1 x2 x3 : List Int) (ra : Option Addr) (rn rc : Nat) (rs : List Rg) (w : World) (h : Pm w g base pc rg a1 a2 a3 n1 c1 n2 c2 n3 c3 x1 x2 x3 ra rn rc rs) (d0 : 0 ≤ d) (d1 : d ≤ 7) (a0 : 0 ≤ a) (a7 : a ≤ 7) (i0 : 0 ≤ i) (i1 : i ≤ 65535) :
    Calls Tryz.prog 237 #[.pointer (some ⟨g, 0, none⟩), .agg #[.int .i64 10, .int .i64 d, .int .i64 a, .int .i64 i]] w (OpPost w g base a1 a2 n1 c1 n2 c2 ra rn rc rs (opr 10 d a i pc rg n1 n2 n3 x1 x2 x3 rs rn)) := by
  exact op10_any d a i g base pc rg a1 a2 a3 n1 c1 n2 c2 n3 c3 x1 x2 x3 ra rn rc rs w h d0 d1 a0 a7 i0 i1

theorem opr11_any (d a i : Int) (g base : Nat) (pc : Int) (rg : List Int) (a1 a2 a3 : Option Addr) (n1 c1 n2 c2 n3 c3 : Nat) (x1 x2 x3 : List Int) (ra : Option Addr) (rn rc : Nat) (rs : List Rg) (w : World) (h : Pm w g base pc rg a1 a2 a3 n1 c1 n2 c2 n3 c3 x1 x2 x3 ra rn rc rs) (d0 : 0 ≤ d) (d1 : d ≤ 7) (a0 : 0 ≤ a) (a7 : a ≤ 7) (i0 : 0 ≤ i) (i1 : i ≤ 65535) :
    Calls Tryz.prog 238 #[.pointer (some ⟨g, 0, none⟩), .agg #[.int .i64 11, .int .i64 d, .int .i64 a, .int .i64 i]] w (OpPost w g base a1 a2 n1 c1 n2 c2 ra rn rc rs (opr 11 d a i pc rg n1 n2 n3 x1 x2 x3 rs rn)) := by
  exact op11_any d a i g base pc rg a1 a2 a3 n1 c1 n2 c2 n3 c3 x1 x2 x3 ra rn rc rs w h d0 d1 a0 a7 i0 i1

theorem opr12_any (d a i : Int) (g base : Nat) (pc : Int) (rg : List Int) (a1 a2 a3 : Option Addr) (n1 c1 n2 c2 n3 c3 : Nat) (x1 x2 x3 : List Int) (ra : Option Addr) (rn rc : Nat) (rs : List Rg) (w : World) (h : Pm w g base pc rg a1 a2 a3 n1 c1 n2 c2 n3 c3 x1 x2 x3 ra rn rc rs) (d0 : 0 ≤ d) (d1 : d ≤ 7) (a0 : 0 ≤ a) (a7 : a ≤ 7) (i0 : 0 ≤ i) (i1 : i ≤ 65535) :
    Calls Tryz.prog 239 #[.pointer (some ⟨g, 0, none⟩), .agg #[.int .i64 12, .int .i64 d, .int .i64 a, .int .i64 i]] w (OpPost w g base a1 a2 n1 c1 n2 c2 ra rn rc rs (opr 12 d a i pc rg n1 n2 n3 x1 x2 x3 rs rn)) := by
  exact op12_any d a i g base pc rg a1 a2 a3 n1 c1 n2 c2 n3 c3 x1 x2 x3 ra rn rc rs w h d0 d1 a0 a7 i0 i1

theorem opr13_any (d a i : Int) (g base : Nat) (pc : Int) (rg : List Int) (a1 a2 a3 : Option Addr) (n1 c1 n2 c2 n3 c3 : Nat) (x1 x2 x3 : List Int) (ra : Option Addr) (rn rc : Nat) (rs : List Rg) (w : World) (h : Pm w g base pc rg a1 a2 a3 n1 c1 n2 c2 n3 c3 x1 x2 x3 ra rn rc rs) (d0 : 0 ≤ d) (d1 : d ≤ 7) (a0 : 0 ≤ a) (a7 : a ≤ 7) (i0 : 0 ≤ i) (i1 : i ≤ 65535) :
    Calls Tryz.prog 240 #[.pointer (some ⟨g, 0, none⟩), .agg #[.int .i64 13, .int .i64 d, .int .i64 a, .int .i64 i]] w (OpPost w g base a1 a2 n1 c1 n2 c2 ra rn rc rs (opr 13 d a i pc rg n1 n2 n3 x1 x2 x3 rs rn)) := by
  exact op13_any d a i g base pc rg a1 a2 a3 n1 c1 n2 c2 n3 c3 x1 x2 x3 ra rn rc rs w h d0 d1 a0 a7 i0 i1

theorem opr14_any (d a i : Int) (g base : Nat) (pc : Int) (rg : List Int) (a1 a2 a3 : Option Addr) (n1 c1 n2 c2 n3 c3 : Nat) (x1 x2 x3 : List Int) (ra : Option Addr) (rn rc : Nat) (rs : List Rg) (w : World) (h : Pm w g base pc rg a1 a2 a3 n1 c1 n2 c2 n3 c3 x1 x2 x3 ra rn rc rs) (d0 : 0 ≤ d) (d1 : d ≤ 7) (a0 : 0 ≤ a) (a7 : a ≤ 7) (i0 : 0 ≤ i) (i1 : i ≤ 65535) :
    Calls Tryz.prog 241 #[.pointer (some ⟨g, 0, none⟩), .agg #[.int .i64 14, .int .i64 d, .int .i64 a, .int .i64 i]] w (OpPost w g base a1 a2 n1 c1 n2 c2 ra rn rc rs (opr 14 d a i pc rg n1 n2 n3 x1 x2 x3 rs rn)) := by
  exact op14_any d a i g base pc rg a1 a2 a3 n1 c1 n2 c2 n3 c3 x1 x2 x3 ra rn rc rs w h d0 d1 a0 a7 i0 i1

theorem opr15_any (d a i : Int) (g base : Nat) (pc : Int) (rg : List Int) (a1 a2 a3 : Option Addr) (n1 c1 n2 c2 n3 c3 : Nat) (x1 x2 x3 : List Int) (ra : Option Addr) (rn rc : Nat) (rs : List Rg) (w : World) (h : Pm w g base pc rg a1 a2 a3 n1 c1 n2 c2 n3 c3 x1 x2 x3 ra rn rc rs) (d0 : 0 ≤ d) (d1 : d ≤ 7) (a0 : 0 ≤ a) (a7 : a ≤ 7) (i0 : 0 ≤ i) (i1 : i ≤ 65535) :
    Calls Tryz.prog 243 #[.pointer (some ⟨g, 0, none⟩), .agg #[.int .i64 15, .int .i64 d, .int .i64 a, .int .i64 i]] w (OpPost w g base a1 a2 n1 c1 n2 c2 ra rn rc rs (opr 15 d a i pc rg n1 n2 n3 x1 x2 x3 rs rn)) := by
  exact op15_any d a i g base pc rg a1 a2 a3 n1 c1 n2 c2 n3 c3 x1 x2 x3 ra rn rc rs w h d0 d1 a0 a7 i0 i1

theorem opr16_any (d a i : Int) (g base : Nat) (pc : Int) (rg : List Int) (a1 a2 a3 : Option Addr) (n1 c1 n2 c2 n3 c3 : Nat) (x1 x2 x3 : List Int) (ra : Option Addr) (rn rc : Nat) (rs : List Rg) (w : World) (h : Pm w g base pc rg a1 a2 a3 n1 c1 n2 c2 n3 c3 x1 x2 x3 ra rn rc rs) (d0 : 0 ≤ d) (d1 : d ≤ 7) (a0 : 0 ≤ a) (a7 : a ≤ 7) (i0 : 0 ≤ i) (i1 : i ≤ 65535) :
    Calls Tryz.prog 244 #[.pointer (some ⟨g, 0, none⟩), .agg #[.int .i64 16, .int .i64 d, .int .i64 a, .int .i64 i]] w (OpPost w g base a1 a2 n1 c1 n2 c2 ra rn rc rs (opr 16 d a i pc rg n1 n2 n3 x1 x2 x3 rs rn)) := by
  exact op16_any d a i g base pc rg a1 a2 a3 n1 c1 n2 c2 n3 c3 x1 x2 x3 ra rn rc rs w h d0 d1 a0 a7 i0 i1

theorem opr17_any (d a i : Int) (g base : Nat) (pc : Int) (rg : List Int) (a1 a2 a3 : Option Addr) (n1 c1 n2 c2 n3 c3 : Nat) (x1 x2 x3 : List Int) (ra : Option Addr) (rn rc : Nat) (rs : List Rg) (w : World) (h : Pm w g base pc rg a1 a2 a3 n1 c1 n2 c2 n3 c3 x1 x2 x3 ra rn rc rs) (d0 : 0 ≤ d) (d1 : d ≤ 7) (a0 : 0 ≤ a) (a7 : a ≤ 7) (i0 : 0 ≤ i) (i1 : i ≤ 65535) :
    Calls Tryz.prog 245 #[.pointer (some ⟨g, 0, none⟩), .agg #[.int .i64 17, .int .i64 d, .int .i64 a, .int .i64 i]] w (OpPost w g base a1 a2 n1 c1 n2 c2 ra rn rc rs (opr 17 d a i pc rg n1 n2 n3 x1 x2 x3 rs rn)) := by
  exact op17_any d a i g base pc rg a1 a2 a3 n1 c1 n2 c2 n3 c3 x1 x2 x3 ra rn rc rs w h d0 d1 a0 a7 i0 i1

theorem opr18_any (d a i : Int) (g base : Nat) (pc : Int) (rg : List Int) (a1 a2 a3 : Option Addr) (n1 c1 n2 c2 n3 c3 : Nat) (x1 x2 x3 : List Int) (ra : Option Addr) (rn rc : Nat) (rs : List Rg) (w : World) (h : Pm w g base pc rg a1 a2 a3 n1 c1 n2 c2 n3 c3 x1 x2 x3 ra rn rc rs) (d0 : 0 ≤ d) (d1 : d ≤ 7) (a0 : 0 ≤ a) (a7 : a ≤ 7) (i0 : 0 ≤ i) (i1 : i ≤ 65535) :
    Calls Tryz.prog 247 #[.pointer (some ⟨g, 0, none⟩), .agg #[.int .i64 18, .int .i64 d, .int .i64 a, .int .i64 i]] w (OpPost w g base a1 a2 n1 c1 n2 c2 ra rn rc rs (opr 18 d a i pc rg n1 n2 n3 x1 x2 x3 rs rn)) := by
  exact op18_any d a i g base pc rg a1 a2 a3 n1 c1 n2 c2 n3 c3 x1 x2 x3 ra rn rc rs w h d0 d1 a0 a7 i0 i1

theorem opr19_any (d a i : Int) (g base : Nat) (pc : Int) (rg : List Int) (a1 a2 a3 : Option Addr) (n1 c1 n2 c2 n3 c3 : Nat) (x1 x2 x3 : List Int) (ra : Option Addr) (rn rc : Nat) (rs : List Rg) (w : World) (h : Pm w g base pc rg a1 a2 a3 n1 c1 n2 c2 n3 c3 x1 x2 x3 ra rn rc rs) (d0 : 0 ≤ d) (d1 : d ≤ 7) (a0 : 0 ≤ a) (a7 : a ≤ 7) (i0 : 0 ≤ i) (i1 : i ≤ 65535) :
    Calls Tryz.prog 248 #[.pointer (some ⟨g, 0, none⟩), .agg #[.int .i64 19, .int .i64 d, .int .i64 a, .int .i64 i]] w (OpPost w g base a1 a2 n1 c1 n2 c2 ra rn rc rs (opr 19 d a i pc rg n1 n2 n3 x1 x2 x3 rs rn)) := by
  exact op19_any d a i g base pc rg a1 a2 a3 n1 c1 n2 c2 n3 c3 x1 x2 x3 ra rn rc rs w h d0 d1 a0 a7 i0 i1

theorem opr20_any (d a i : Int) (g base : Nat) (pc : Int) (rg : List Int) (a1 a2 a3 : Option Addr) (n1 c1 n2 c2 n3 c3 : Nat) (x1 x2 x3 : List Int) (ra : Option Addr) (rn rc : Nat) (rs : List Rg) (w : World) (h : Pm w g base pc rg a1 a2 a3 n1 c1 n2 c2 n3 c3 x1 x2 x3 ra rn rc rs) (d0 : 0 ≤ d) (d1 : d ≤ 7) (a0 : 0 ≤ a) (a7 : a ≤ 7) (i0 : 0 ≤ i) (i1 : i ≤ 65535) :
    Calls Tryz.prog 249 #[.pointer (some ⟨g, 0, none⟩), .agg #[.int .i64 20, .int .i64 d, .int .i64 a, .int .i64 i]] w (OpPost w g base a1 a2 n1 c1 n2 c2 ra rn rc rs (opr 20 d a i pc rg n1 n2 n3 x1 x2 x3 rs rn)) := by
  have e : opr 20 d a i pc rg n1 n2 n3 x1 x2 x3 rs rn = ⟨0, 0, if jmp 20 (rg.getD d.toNat 0) = true then (pc + 4 + 4 * wide i) % 4294967296 else (pc + 4) % 4294967296, rg, x1, x2, x3⟩ := rfl
  rw [e]
  exact op20_any d a i g base pc rg a1 a2 a3 n1 c1 n2 c2 n3 c3 x1 x2 x3 ra rn rc rs w h d0 d1 a0 a7 i0 i1

theorem opr21_any (d a i : Int) (g base : Nat) (pc : Int) (rg : List Int) (a1 a2 a3 : Option Addr) (n1 c1 n2 c2 n3 c3 : Nat) (x1 x2 x3 : List Int) (ra : Option Addr) (rn rc : Nat) (rs : List Rg) (w : World) (h : Pm w g base pc rg a1 a2 a3 n1 c1 n2 c2 n3 c3 x1 x2 x3 ra rn rc rs) (d0 : 0 ≤ d) (d1 : d ≤ 7) (a0 : 0 ≤ a) (a7 : a ≤ 7) (i0 : 0 ≤ i) (i1 : i ≤ 65535) :
    Calls Tryz.prog 251 #[.pointer (some ⟨g, 0, none⟩), .agg #[.int .i64 21, .int .i64 d, .int .i64 a, .int .i64 i]] w (OpPost w g base a1 a2 n1 c1 n2 c2 ra rn rc rs (opr 21 d a i pc rg n1 n2 n3 x1 x2 x3 rs rn)) := by
  have e : opr 21 d a i pc rg n1 n2 n3 x1 x2 x3 rs rn = ⟨0, 0, if jmp 21 (rg.getD d.toNat 0) = true then (pc + 4 + 4 * wide i) % 4294967296 else (pc + 4) % 4294967296, rg, x1, x2, x3⟩ := rfl
  rw [e]
  exact op21_any d a i g base pc rg a1 a2 a3 n1 c1 n2 c2 n3 c3 x1 x2 x3 ra rn rc rs w h d0 d1 a0 a7 i0 i1

theorem opr22_any (d a i : Int) (g base : Nat) (pc : Int) (rg : List Int) (a1 a2 a3 : Option Addr) (n1 c1 n2 c2 n3 c3 : Nat) (x1 x2 x3 : List Int) (ra : Option Addr) (rn rc : Nat) (rs : List Rg) (w : World) (h : Pm w g base pc rg a1 a2 a3 n1 c1 n2 c2 n3 c3 x1 x2 x3 ra rn rc rs) (d0 : 0 ≤ d) (d1 : d ≤ 7) (a0 : 0 ≤ a) (a7 : a ≤ 7) (i0 : 0 ≤ i) (i1 : i ≤ 65535) :
    Calls Tryz.prog 252 #[.pointer (some ⟨g, 0, none⟩), .agg #[.int .i64 22, .int .i64 d, .int .i64 a, .int .i64 i]] w (OpPost w g base a1 a2 n1 c1 n2 c2 ra rn rc rs (opr 22 d a i pc rg n1 n2 n3 x1 x2 x3 rs rn)) := by
  have e : opr 22 d a i pc rg n1 n2 n3 x1 x2 x3 rs rn = ⟨0, 0, if jmp 22 (rg.getD d.toNat 0) = true then (pc + 4 + 4 * wide i) % 4294967296 else (pc + 4) % 4294967296, rg, x1, x2, x3⟩ := rfl
  rw [e]
  exact op22_any d a i g base pc rg a1 a2 a3 n1 c1 n2 c2 n3 c3 x1 x2 x3 ra rn rc rs w h d0 d1 a0 a7 i0 i1

theorem opr23_any (d a i : Int) (g base : Nat) (pc : Int) (rg : List Int) (a1 a2 a3 : Option Addr) (n1 c1 n2 c2 n3 c3 : Nat) (x1 x2 x3 : List Int) (ra : Option Addr) (rn rc : Nat) (rs : List Rg) (w : World) (h : Pm w g base pc rg a1 a2 a3 n1 c1 n2 c2 n3 c3 x1 x2 x3 ra rn rc rs) (d0 : 0 ≤ d) (d1 : d ≤ 7) (a0 : 0 ≤ a) (a7 : a ≤ 7) (i0 : 0 ≤ i) (i1 : i ≤ 65535) :
    Calls Tryz.prog 253 #[.pointer (some ⟨g, 0, none⟩), .agg #[.int .i64 23, .int .i64 d, .int .i64 a, .int .i64 i]] w (OpPost w g base a1 a2 n1 c1 n2 c2 ra rn rc rs (opr 23 d a i pc rg n1 n2 n3 x1 x2 x3 rs rn)) := by
  have e : opr 23 d a i pc rg n1 n2 n3 x1 x2 x3 rs rn = ⟨2, (pc + 4 + 4 * wide i) % 4294967296, (pc + 4) % 4294967296, rg, x1, x2, x3⟩ := by
    have e1 : opr 23 d a i pc rg n1 n2 n3 x1 x2 x3 rs rn = ⟨2, ((pc + 4) % 4294967296 + 4 * wide i) % 4294967296, (pc + 4) % 4294967296, rg, x1, x2, x3⟩ := rfl
    rw [e1, show ((pc + 4) % 4294967296 + 4 * wide i) % 4294967296 = (pc + 4 + 4 * wide i) % 4294967296 by omega]
  rw [e]
  exact op23_any d a i g base pc rg a1 a2 a3 n1 c1 n2 c2 n3 c3 x1 x2 x3 ra rn rc rs w h d0 d1 a0 a7 i0 i1

theorem opr24_any (d a i : Int) (g base : Nat) (pc : Int) (rg : List Int) (a1 a2 a3 : Option Addr) (n1 c1 n2 c2 n3 c3 : Nat) (x1 x2 x3 : List Int) (ra : Option Addr) (rn rc : Nat) (rs : List Rg) (w : World) (h : Pm w g base pc rg a1 a2 a3 n1 c1 n2 c2 n3 c3 x1 x2 x3 ra rn rc rs) (d0 : 0 ≤ d) (d1 : d ≤ 7) (a0 : 0 ≤ a) (a7 : a ≤ 7) (i0 : 0 ≤ i) (i1 : i ≤ 65535) :
    Calls Tryz.prog 255 #[.pointer (some ⟨g, 0, none⟩), .agg #[.int .i64 24, .int .i64 d, .int .i64 a, .int .i64 i]] w (OpPost w g base a1 a2 n1 c1 n2 c2 ra rn rc rs (opr 24 d a i pc rg n1 n2 n3 x1 x2 x3 rs rn)) := by
  exact op24_any d a i g base pc rg a1 a2 a3 n1 c1 n2 c2 n3 c3 x1 x2 x3 ra rn rc rs w h d0 d1 a0 a7 i0 i1

theorem opr25_any (d a i : Int) (g base : Nat) (pc : Int) (rg : List Int) (a1 a2 a3 : Option Addr) (n1 c1 n2 c2 n3 c3 : Nat) (x1 x2 x3 : List Int) (ra : Option Addr) (rn rc : Nat) (rs : List Rg) (w : World) (h : Pm w g base pc rg a1 a2 a3 n1 c1 n2 c2 n3 c3 x1 x2 x3 ra rn rc rs) (d0 : 0 ≤ d) (d1 : d ≤ 7) (a0 : 0 ≤ a) (a7 : a ≤ 7) (i0 : 0 ≤ i) (i1 : i ≤ 65535) :
    Calls Tryz.prog 256 #[.pointer (some ⟨g, 0, none⟩), .agg #[.int .i64 25, .int .i64 d, .int .i64 a, .int .i64 i]] w (OpPost w g base a1 a2 n1 c1 n2 c2 ra rn rc rs (opr 25 d a i pc rg n1 n2 n3 x1 x2 x3 rs rn)) := by
  exact op25_any d a i g base pc rg a1 a2 a3 n1 c1 n2 c2 n3 c3 x1 x2 x3 ra rn rc rs w h d0 d1 a0 a7 i0 i1

end Go.Proofs.YtngdgogjlpjjpadGreat
