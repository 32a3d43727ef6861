import Derived.Test.YtngdgogjlpjjpadGreatK50
import Derived.Test.YtngdgogjlpjjpadGreatK12
import Derived.Test.YtngdgogjlpjjpadGreatK49
import Derived.Deep.RegionHeld3
import Derived.Deep.RegionWith
namespace Go.Proofs.YtngdgogjlpjjpadGreat
open Go.RowKit
set_option linter.unusedVariables false
set_option linter.unusedSimpArgs false
set_option maxRecDepth 100000

def sl11 (v : SV) : List (Nat × Value) := [(42, v.y0), (43, v.y1), (44, v.y2), (45, v.y3), (46, v.y4), (47, v.y5), (48, v.y6), (41, v.y7), (49, v.y8), (50, v.y9), (51, v.y10), (52, v.y11), (8, v.y12), (9, v.y13), (10, v.y16), (11, v.y17)]
theorem ev11_0 {A0 : Act} (v : SV) (h : A0.tmps.size = 187) : (putL A0 (sl11 v)).tmps[42]?.getD undef = v.y0 := ev_of (putL_eval (l := []) (r := [(43, v.y1), (44, v.y2), (45, v.y3), (46, v.y4), (47, v.y5), (48, v.y6), (41, v.y7), (49, v.y8), (50, v.y9), (51, v.y10), (52, v.y11), (8, v.y12), (9, v.y13), (10, v.y16), (11, v.y17)]) (by rw [h]; decide) (by simp))
theorem put11_0 {A0 : Act} (v v' : SV) (u : Value) (h : sl11 v' = sl11 { v with y0 := u }) : (putL A0 (sl11 v)).put (some 42) u = putL A0 (sl11 v') := by
  rw [h]
  exact putL_put (l := []) (r := [(43, v.y1), (44, v.y2), (45, v.y3), (46, v.y4), (47, v.y5), (48, v.y6), (41, v.y7), (49, v.y8), (50, v.y9), (51, v.y10), (52, v.y11), (8, v.y12), (9, v.y13), (10, v.y16), (11, v.y17)]) (by simp)
theorem ev11_1 {A0 : Act} (v : SV) (h : A0.tmps.size = 187) : (putL A0 (sl11 v)).tmps[43]?.getD undef = v.y1 := ev_of (putL_eval (l := [(42, v.y0)]) (r := [(44, v.y2), (45, v.y3), (46, v.y4), (47, v.y5), (48, v.y6), (41, v.y7), (49, v.y8), (50, v.y9), (51, v.y10), (52, v.y11), (8, v.y12), (9, v.y13), (10, v.y16), (11, v.y17)]) (by rw [h]; decide) (by simp))
theorem put11_1 {A0 : Act} (v v' : SV) (u : Value) (h : sl11 v' = sl11 { v with y1 := u }) : (putL A0 (sl11 v)).put (some 43) u = putL A0 (sl11 v') := by
  rw [h]
  exact putL_put (l := [(42, v.y0)]) (r := [(44, v.y2), (45, v.y3), (46, v.y4), (47, v.y5), (48, v.y6), (41, v.y7), (49, v.y8), (50, v.y9), (51, v.y10), (52, v.y11), (8, v.y12), (9, v.y13), (10, v.y16), (11, v.y17)]) (by simp)
theorem ev11_2 {A0 : Act} (v : SV) (h : A0.tmps.size = 187) : (putL A0 (sl11 v)).tmps[44]?.getD undef = v.y2 := ev_of (putL_eval (l := [(42, v.y0), (43, v.y1)]) (r := [(45, v.y3), (46, v.y4), (47, v.y5), (48, v.y6), (41, v.y7), (49, v.y8), (50, v.y9), (51, v.y10), (52, v.y11), (8, v.y12), (9, v.y13), (10, v.y16), (11, v.y17)]) (by rw [h]; decide) (by simp))
theorem put11_2 {A0 : Act} (v v' : SV) (u : Value) (h : sl11 v' = sl11 { v with y2 := u }) : (putL A0 (sl11 v)).put (some 44) u = putL A0 (sl11 v') := by
  rw [h]
  exact putL_put (l := [(42, v.y0), (43, v.y1)]) (r := [(45, v.y3), (46, v.y4), (47, v.y5), (48, v.y6), (41, v.y7), (49, v.y8), (50, v.y9), (51, v.y10), (52, v.y11), (8, v.y12), (9, v.y13), (10, v.y16), (11, v.y17)]) (by simp)
theorem ev11_3 {A0 : Act} (v : SV) (h : A0.tmps.size = 187) : (putL A0 (sl11 v)).tmps[45]?.getD undef = v.y3 := ev_of (putL_eval (l := [(42, v.y0), (43, v.y1), (44, v.y2)]) (r := [(46, v.y4), (47, v.y5), (48, v.y6), (41, v.y7), (49, v.y8), (50, v.y9), (51, v.y10), (52, v.y11), (8, v.y12), (9, v.y13), (10, v.y16), (11, v.y17)]) (by rw [h]; decide) (by simp))
theorem put11_3 {A0 : Act} (v v' : SV) (u : Value) (h : sl11 v' = sl11 { v with y3 := u }) : (putL A0 (sl11 v)).put (some 45) u = putL A0 (sl11 v') := by
  rw [h]
  exact putL_put (l := [(42, v.y0), (43, v.y1), (44, v.y2)]) (r := [(46, v.y4), (47, v.y5), (48, v.y6), (41, v.y7), (49, v.y8), (50, v.y9), (51, v.y10), (52, v.y11), (8, v.y12), (9, v.y13), (10, v.y16), (11, v.y17)]) (by simp)
theorem ev11_4 {A0 : Act} (v : SV) (h : A0.tmps.size = 187) : (putL A0 (sl11 v)).tmps[46]?.getD undef = v.y4 := ev_of (putL_eval (l := [(42, v.y0), (43, v.y1), (44, v.y2), (45, v.y3)]) (r := [(47, v.y5), (48, v.y6), (41, v.y7), (49, v.y8), (50, v.y9), (51, v.y10), (52, v.y11), (8, v.y12), (9, v.y13), (10, v.y16), (11, v.y17)]) (by rw [h]; decide) (by simp))
theorem put11_4 {A0 : Act} (v v' : SV) (u : Value) (h : sl11 v' = sl11 { v with y4 := u }) : (putL A0 (sl11 v)).put (some 46) u = putL A0 (sl11 v') := by
  rw [h]
  exact putL_put (l := [(42, v.y0), (43, v.y1), (44, v.y2), (45, v.y3)]) (r := [(47, v.y5), (48, v.y6), (41, v.y7), (49, v.y8), (50, v.y9), (51, v.y10), (52, v.y11), (8, v.y12), (9, v.y13), (10, v.y16), (11, v.y17)]) (by simp)
theorem ev11_5 {A0 : Act} (v : SV) (h : A0.tmps.size = 187) : (putL A0 (sl11 v)).tmps[47]?.getD undef = v.y5 := ev_of (putL_eval (l := [(42, v.y0), (43, v.y1), (44, v.y2), (45, v.y3), (46, v.y4)]) (r := [(48, v.y6), (41, v.y7), (49, v.y8), (50, v.y9), (51, v.y10), (52, v.y11), (8, v.y12), (9, v.y13), (10, v.y16), (11, v.y17)]) (by rw [h]; decide) (by simp))
theorem put11_5 {A0 : Act} (v v' : SV) (u : Value) (h : sl11 v' = sl11 { v with y5 := u }) : (putL A0 (sl11 v)).put (some 47) u = putL A0 (sl11 v') := by
  rw [h]
  exact putL_put (l := [(42, v.y0), (43, v.y1), (44, v.y2), (45, v.y3), (46, v.y4)]) (r := [(48, v.y6), (41, v.y7), (49, v.y8), (50, v.y9), (51, v.y10), (52, v.y11), (8, v.y12), (9, v.y13), (10, v.y16), (11, v.y17)]) (by simp)
theorem ev11_6 {A0 : Act} (v : SV) (h : A0.tmps.size = 187) : (putL A0 (sl11 v)).tmps[48]?.getD undef = v.y6 := ev_of (putL_eval (l := [(42, v.y0), (43, v.y1), (44, v.y2), (45, v.y3), (46, v.y4), (47, v.y5)]) (r := [(41, v.y7), (49, v.y8), (50, v.y9), (51, v.y10), (52, v.y11), (8, v.y12), (9, v.y13), (10, v.y16), (11, v.y17)]) (by rw [h]; decide) (by simp))
theorem put11_6 {A0 : Act} (v v' : SV) (u : Value) (h : sl11 v' = sl11 { v with y6 := u }) : (putL A0 (sl11 v)).put (some 48) u = putL A0 (sl11 v') := by
  rw [h]
  exact putL_put (l := [(42, v.y0), (43, v.y1), (44, v.y2), (45, v.y3), (46, v.y4), (47, v.y5)]) (r := [(41, v.y7), (49, v.y8), (50, v.y9), (51, v.y10), (52, v.y11), (8, v.y12), (9, v.y13), (10, v.y16), (11, v.y17)]) (by simp)
theorem ev11_7 {A0 : Act} (v : SV) (h : A0.tmps.size = 187) : (putL A0 (sl11 v)).tmps[41]?.getD undef = v.y7 := ev_of (putL_eval (l := [(42, v.y0), (43, v.y1), (44, v.y2), (45, v.y3), (46, v.y4), (47, v.y5), (48, v.y6)]) (r := [(49, v.y8), (50, v.y9), (51, v.y10), (52, v.y11), (8, v.y12), (9, v.y13), (10, v.y16), (11, v.y17)]) (by rw [h]; decide) (by simp))
theorem put11_7 {A0 : Act} (v v' : SV) (u : Value) (h : sl11 v' = sl11 { v with y7 := u }) : (putL A0 (sl11 v)).put (some 41) u = putL A0 (sl11 v') := by
  rw [h]
  exact putL_put (l := [(42, v.y0), (43, v.y1), (44, v.y2), (45, v.y3), (46, v.y4), (47, v.y5), (48, v.y6)]) (r := [(49, v.y8), (50, v.y9), (51, v.y10), (52, v.y11), (8, v.y12), (9, v.y13), (10, v.y16), (11, v.y17)]) (by simp)
theorem ev11_8 {A0 : Act} (v : SV) (h : A0.tmps.size = 187) : (putL A0 (sl11 v)).tmps[49]?.getD undef = v.y8 := ev_of (putL_eval (l := [(42, v.y0), (43, v.y1), (44, v.y2), (45, v.y3), (46, v.y4), (47, v.y5), (48, v.y6), (41, v.y7)]) (r := [(50, v.y9), (51, v.y10), (52, v.y11), (8, v.y12), (9, v.y13), (10, v.y16), (11, v.y17)]) (by rw [h]; decide) (by simp))
theorem put11_8 {A0 : Act} (v v' : SV) (u : Value) (h : sl11 v' = sl11 { v with y8 := u }) : (putL A0 (sl11 v)).put (some 49) u = putL A0 (sl11 v') := by
  rw [h]
  exact putL_put (l := [(42, v.y0), (43, v.y1), (44, v.y2), (45, v.y3), (46, v.y4), (47, v.y5), (48, v.y6), (41, v.y7)]) (r := [(50, v.y9), (51, v.y10), (52, v.y11), (8, v.y12), (9, v.y13), (10, v.y16), (11, v.y17)]) (by simp)
theorem ev11_9 {A0 : Act} (v : SV) (h : A0.tmps.size = 187) : (putL A0 (sl11 v)).tmps[50]?.getD undef = v.y9 := ev_of (putL_eval (l := [(42, v.y0), (43, v.y1), (44, v.y2), (45, v.y3), (46, v.y4), (47, v.y5), (48, v.y6), (41, v.y7), (49, v.y8)]) (r := [(51, v.y10), (52, v.y11), (8, v.y12), (9, v.y13), (10, v.y16), (11, v.y17)]) (by rw [h]; decide) (by simp))
theorem put11_9 {A0 : Act} (v v' : SV) (u : Value) (h : sl11 v' = sl11 { v with y9 := u }) : (putL A0 (sl11 v)).put (some 50) u = putL A0 (sl11 v') := by
  rw [h]
  exact putL_put (l := [(42, v.y0), (43, v.y1), (44, v.y2), (45, v.y3), (46, v.y4), (47, v.y5), (48, v.y6), (41, v.y7), (49, v.y8)]) (r := [(51, v.y10), (52, v.y11), (8, v.y12), (9, v.y13), (10, v.y16), (11, v.y17)]) (by simp)
theorem ev11_10 {A0 : Act} (v : SV) (h : A0.tmps.size = 187) : (putL A0 (sl11 v)).tmps[51]?.getD undef = v.y10 := ev_of (putL_eval (l := [(42, v.y0), (43, v.y1), (44, v.y2), (45, v.y3), (46, v.y4), (47, v.y5), (48, v.y6), (41, v.y7), (49, v.y8), (50, v.y9)]) (r := [(52, v.y11), (8, v.y12), (9, v.y13), (10, v.y16), (11, v.y17)]) (by rw [h]; decide) (by simp))
theorem put11_10 {A0 : Act} (v v' : SV) (u : Value) (h : sl11 v' = sl11 { v with y10 := u }) : (putL A0 (sl11 v)).put (some 51) u = putL A0 (sl11 v') := by
  rw [h]
  exact putL_put (l := [(42, v.y0), (43, v.y1), (44, v.y2), (45, v.y3), (46, v.y4), (47, v.y5), (48, v.y6), (41, v.y7), (49, v.y8), (50, v.y9)]) (r := [(52, v.y11), (8, v.y12), (9, v.y13), (10, v.y16), (11, v.y17)]) (by simp)
theorem ev11_11 {A0 : Act} (v : SV) (h : A0.tmps.size = 187) : (putL A0 (sl11 v)).tmps[52]?.getD undef = v.y11 := ev_of (putL_eval (l := [(42, v.y0), (43, v.y1), (44, v.y2), (45, v.y3), (46, v.y4), (47, v.y5), (48, v.y6), (41, v.y7), (49, v.y8), (50, v.y9), (51, v.y10)]) (r := [(8, v.y12), (9, v.y13), (10, v.y16), (11, v.y17)]) (by rw [h]; decide) (by simp))
theorem put11_11 {A0 : Act} (v v' : SV) (u : Value) (h : sl11 v' = sl11 { v with y11 := u }) : (putL A0 (sl11 v)).put (some 52) u = putL A0 (sl11 v') := by
  rw [h]
  exact putL_put (l := [(42, v.y0), (43, v.y1), (44, v.y2), (45, v.y3), (46, v.y4), (47, v.y5), (48, v.y6), (41, v.y7), (49, v.y8), (50, v.y9), (51, v.y10)]) (r := [(8, v.y12), (9, v.y13), (10, v.y16), (11, v.y17)]) (by simp)
theorem ev11_12 {A0 : Act} (v : SV) (h : A0.tmps.size = 187) : (putL A0 (sl11 v)).tmps[8]?.getD undef = v.y12 := ev_of (putL_eval (l := [(42, v.y0), (43, v.y1), (44, v.y2), (45, v.y3), (46, v.y4), (47, v.y5), (48, v.y6), (41, v.y7), (49, v.y8), (50, v.y9), (51, v.y10), (52, v.y11)]) (r := [(9, v.y13), (10, v.y16), (11, v.y17)]) (by rw [h]; decide) (by simp))
theorem put11_12 {A0 : Act} (v v' : SV) (u : Value) (h : sl11 v' = sl11 { v with y12 := u }) : (putL A0 (sl11 v)).put (some 8) u = putL A0 (sl11 v') := by
  rw [h]
  exact putL_put (l := [(42, v.y0), (43, v.y1), (44, v.y2), (45, v.y3), (46, v.y4), (47, v.y5), (48, v.y6), (41, v.y7), (49, v.y8), (50, v.y9), (51, v.y10), (52, v.y11)]) (r := [(9, v.y13), (10, v.y16), (11, v.y17)]) (by simp)
theorem ev11_13 {A0 : Act} (v : SV) (h : A0.tmps.size = 187) : (putL A0 (sl11 v)).tmps[9]?.getD undef = v.y13 := ev_of (putL_eval (l := [(42, v.y0), (43, v.y1), (44, v.y2), (45, v.y3), (46, v.y4), (47, v.y5), (48, v.y6), (41, v.y7), (49, v.y8), (50, v.y9), (51, v.y10), (52, v.y11), (8, v.y12)]) (r := [(10, v.y16), (11, v.y17)]) (by rw [h]; decide) (by simp))
theorem put11_13 {A0 : Act} (v v' : SV) (u : Value) (h : sl11 v' = sl11 { v with y13 := u }) : (putL A0 (sl11 v)).put (some 9) u = putL A0 (sl11 v') := by
  rw [h]
  exact putL_put (l := [(42, v.y0), (43, v.y1), (44, v.y2), (45, v.y3), (46, v.y4), (47, v.y5), (48, v.y6), (41, v.y7), (49, v.y8), (50, v.y9), (51, v.y10), (52, v.y11), (8, v.y12)]) (r := [(10, v.y16), (11, v.y17)]) (by simp)
theorem ev11_16 {A0 : Act} (v : SV) (h : A0.tmps.size = 187) : (putL A0 (sl11 v)).tmps[10]?.getD undef = v.y16 := ev_of (putL_eval (l := [(42, v.y0), (43, v.y1), (44, v.y2), (45, v.y3), (46, v.y4), (47, v.y5), (48, v.y6), (41, v.y7), (49, v.y8), (50, v.y9), (51, v.y10), (52, v.y11), (8, v.y12), (9, v.y13)]) (r := [(11, v.y17)]) (by rw [h]; decide) (by simp))
theorem put11_16 {A0 : Act} (v v' : SV) (u : Value) (h : sl11 v' = sl11 { v with y16 := u }) : (putL A0 (sl11 v)).put (some 10) u = putL A0 (sl11 v') := by
  rw [h]
  exact putL_put (l := [(42, v.y0), (43, v.y1), (44, v.y2), (45, v.y3), (46, v.y4), (47, v.y5), (48, v.y6), (41, v.y7), (49, v.y8), (50, v.y9), (51, v.y10), (52, v.y11), (8, v.y12), (9, v.y13)]) (r := [(11, v.y17)]) (by simp)
theorem ev11_17 {A0 : Act} (v : SV) (h : A0.tmps.size = 187) : (putL A0 (sl11 v)).tmps[11]?.getD undef = v.y17 := ev_of (putL_eval (l := [(42, v.y0), (43, v.y1), (44, v.y2), (45, v.y3), (46, v.y4), (47, v.y5), (48, v.y6), (41, v.y7), (49, v.y8), (50, v.y9), (51, v.y10), (52, v.y11), (8, v.y12), (9, v.y13), (10, v.y16)]) (r := []) (by rw [h]; decide) (by simp))
theorem put11_17 {A0 : Act} (v v' : SV) (u : Value) (h : sl11 v' = sl11 { v with y17 := u }) : (putL A0 (sl11 v)).put (some 11) u = putL A0 (sl11 v') := by
  rw [h]
  exact putL_put (l := [(42, v.y0), (43, v.y1), (44, v.y2), (45, v.y3), (46, v.y4), (47, v.y5), (48, v.y6), (41, v.y7), (49, v.y8), (50, v.y9), (51, v.y10), (52, v.y11), (8, v.y12), (9, v.y13), (10, v.y16)]) (r := []) (by simp)
theorem same11 {A0 : Act} (v v' : SV) (h : sl11 v' = sl11 v) : (putL A0 (sl11 v)).put none undef = putL A0 (sl11 v') := by
  rw [h]
  rfl
theorem ev11_a2 {A0 : Act} {u : Value} (v : SV) (h : A0.eval (.tmp 2) = u) : (putL A0 (sl11 v)).tmps[2]?.getD undef = u := ev_of ((putL_eval_other (l := [(42, v.y0), (43, v.y1), (44, v.y2), (45, v.y3), (46, v.y4), (47, v.y5), (48, v.y6), (41, v.y7), (49, v.y8), (50, v.y9), (51, v.y10), (52, v.y11), (8, v.y12), (9, v.y13), (10, v.y16), (11, v.y17)]) (by simp)).trans h)
theorem ev11_a3 {A0 : Act} {u : Value} (v : SV) (h : A0.eval (.tmp 3) = u) : (putL A0 (sl11 v)).tmps[3]?.getD undef = u := ev_of ((putL_eval_other (l := [(42, v.y0), (43, v.y1), (44, v.y2), (45, v.y3), (46, v.y4), (47, v.y5), (48, v.y6), (41, v.y7), (49, v.y8), (50, v.y9), (51, v.y10), (52, v.y11), (8, v.y12), (9, v.y13), (10, v.y16), (11, v.y17)]) (by simp)).trans h)
theorem ev11_a4 {A0 : Act} {u : Value} (v : SV) (h : A0.eval (.tmp 4) = u) : (putL A0 (sl11 v)).tmps[4]?.getD undef = u := ev_of ((putL_eval_other (l := [(42, v.y0), (43, v.y1), (44, v.y2), (45, v.y3), (46, v.y4), (47, v.y5), (48, v.y6), (41, v.y7), (49, v.y8), (50, v.y9), (51, v.y10), (52, v.y11), (8, v.y12), (9, v.y13), (10, v.y16), (11, v.y17)]) (by simp)).trans h)
theorem run11_0 {pz : String} (a : Act) (W : World) (G : Nat) (pc : Int) (ka : Option Addr) (kn kc : Nat) (h : a.tmps[3]?.getD undef = .pointer (some ⟨G, 0, none⟩)) (k : Blk W G #[.int .i64 pc, .slice ka kn kc] 52) : (execOp a.eval { dst := some 42, op := Op.load 52 (Operand.tmp 3), type := 52, pos := pz, after := #[], guard := none }).run Tryz.prog W = .ok (.value (.agg #[.int .i64 pc, .slice ka kn kc])) W := by
  obtain ⟨q1, q2, q3⟩ := k.two'
  go_simp
theorem run11_1 {pz : String} (a : Act) (W : World) (u : Value) (h : a.tmps[42]?.getD undef = u) : (execOp a.eval { dst := some 43, op := Op.call { callee := Callee.value (Operand.func 21), args := #[Operand.tmp 42], argTypes := #[52] }, type := 58, pos := pz, after := #[{ on := 0, ground := Ground.data }], guard := none }).run Tryz.prog W = .ok (.enter 21 #[u]) W := by
  go_simp
theorem run11_2 {pz : String} (a : Act) (W : World) (G : Nat) (a1 a2 a3 : Option Addr) (n1 c1 n2 c2 n3 c3 : Nat) (h : a.tmps[4]?.getD undef = .pointer (some ⟨G, 0, none⟩)) (k : Blk W G #[.slice a1 n1 c1, .slice a2 n2 c2, .slice a3 n3 c3] 53) : (execOp a.eval { dst := some 44, op := Op.load 53 (Operand.tmp 4), type := 53, pos := pz, after := #[], guard := none }).run Tryz.prog W = .ok (.value (.agg #[.slice a1 n1 c1, .slice a2 n2 c2, .slice a3 n3 c3])) W := by
  obtain ⟨q1, q2, q3, q4⟩ := k.three
  go_simp
theorem run11_3 {pz : String} (a : Act) (W : World) (u : Value) (h : a.tmps[44]?.getD undef = u) : (execOp a.eval { dst := some 45, op := Op.call { callee := Callee.value (Operand.func 22), args := #[Operand.tmp 44], argTypes := #[53] }, type := 38, pos := pz, after := #[{ on := 2, ground := Ground.data }, { on := 1, ground := Ground.chain }], guard := none }).run Tryz.prog W = .ok (.enter 22 #[u]) W := by
  go_simp
theorem run11_4 {pz : String} (a : Act) (W : World) (u : Value) (h : a.tmps[2]?.getD undef = u) : (execOp a.eval { dst := some 46, op := Op.move (Operand.tmp 2), type := 54, pos := pz, after := #[], guard := none }).run Tryz.prog W = .ok (.value u) W := by
  go_simp
theorem run11_5 {pz : String} (a : Act) (W : World) (u : Value) (h : a.tmps[46]?.getD undef = u) : (execOp a.eval { dst := some 47, op := Op.call { callee := Callee.value (Operand.func 23), args := #[Operand.tmp 46], argTypes := #[54] }, type := 63, pos := pz, after := #[{ on := 4, ground := Ground.data }, { on := 3, ground := Ground.chain }], guard := none }).run Tryz.prog W = .ok (.enter 23 #[u]) W := by
  go_simp
theorem run11_6 {pz : String} (a : Act) (W : World) (u1 u2 u3 : Value) (h1 : a.tmps[43]?.getD undef = u1) (h2 : a.tmps[45]?.getD undef = u2) (h3 : a.tmps[47]?.getD undef = u3) : (execOp a.eval { dst := some 48, op := Op.call { callee := Callee.value (Operand.func 20), args := #[Operand.tmp 43, Operand.tmp 45, Operand.tmp 47], argTypes := #[58, 38, 63] }, type := 59, pos := pz, after := #[{ on := 1, ground := Ground.data }, { on := 3, ground := Ground.data }, { on := 5, ground := Ground.data }, { on := 5, ground := Ground.chain }], guard := none }).run Tryz.prog W = .ok (.enter 20 #[u1, u2, u3]) W := by
  go_simp
theorem run11_7 {pz : String} (a : Act) (W : World) (u : Value) (h : a.tmps[48]?.getD undef = u) : (execOp a.eval { dst := some 41, op := Op.move (Operand.tmp 48), type := 59, pos := pz, after := #[{ on := 6, ground := Ground.data }], guard := none }).run Tryz.prog W = .ok (.value u) W := by
  go_simp
theorem run11_8 {pz : String} (a : Act) (W : World) (u0 u1 u2 u3 : Value) (h : a.tmps[41]?.getD undef = .tuple #[u0, u1, u2, u3]) : (execOp a.eval { dst := some 49, op := Op.extract (Operand.tmp 41) 0, type := 58, pos := pz, after := #[{ on := 7, ground := Ground.data }], guard := none }).run Tryz.prog W = .ok (.value u0) W := by
  go_simp
theorem run11_9 {pz : String} (a : Act) (W : World) (u0 u1 u2 u3 : Value) (h : a.tmps[41]?.getD undef = .tuple #[u0, u1, u2, u3]) : (execOp a.eval { dst := some 50, op := Op.extract (Operand.tmp 41) 1, type := 38, pos := pz, after := #[{ on := 7, ground := Ground.data }, { on := 14, ground := Ground.gcOnly Departure.lateStores }], guard := none }).run Tryz.prog W = .ok (.value u1) W := by
  go_simp
theorem run11_10 {pz : String} (a : Act) (W : World) (u0 u1 u2 u3 : Value) (h : a.tmps[41]?.getD undef = .tuple #[u0, u1, u2, u3]) : (execOp a.eval { dst := some 51, op := Op.extract (Operand.tmp 41) 2, type := 3, pos := pz, after := #[{ on := 7, ground := Ground.data }, { on := 15, ground := Ground.gcOnly Departure.lateStores }], guard := none }).run Tryz.prog W = .ok (.value u2) W := by
  go_simp
theorem run11_11 {pz : String} (a : Act) (W : World) (u0 u1 u2 u3 : Value) (h : a.tmps[41]?.getD undef = .tuple #[u0, u1, u2, u3]) : (execOp a.eval { dst := some 52, op := Op.extract (Operand.tmp 41) 3, type := 3, pos := pz, after := #[{ on := 7, ground := Ground.data }, { on := 16, ground := Ground.gcOnly Departure.lateStores }], guard := none }).run Tryz.prog W = .ok (.value u3) W := by
  go_simp
theorem run11_12 {pz : String} (a : Act) (W : World)  : (execOp a.eval { dst := some 8, op := Op.alloc 58, type := 0, pos := pz, after := #[], guard := none }).run Tryz.prog W = .ok (.value (.pointer (some ⟨W.heap.size, 0, none⟩))) (W.alloc (.cells #[.int .i64 0, .slice none 0 0] 58)) := by
  go_simp
theorem run11_13 {pz : String} (a : Act) (W : World)  : (execOp a.eval { dst := some 9, op := Op.alloc 38, type := 0, pos := pz, after := #[], guard := none }).run Tryz.prog W = .ok (.value (.pointer (some ⟨W.heap.size, 0, none⟩))) (W.alloc (.cells #[.slice none 0 0, .slice none 0 0, .slice none 0 0] 38)) := by
  go_simp
theorem run11_14 {pz : String} (a : Act) (W : World) (G : Nat) (p : Int) (ca : Option Addr) (nr cc : Nat) (c0 c1 : Value) (h1 : a.tmps[8]?.getD undef = .pointer (some ⟨G, 0, none⟩)) (h2 : a.tmps[49]?.getD undef = .agg #[.int .i64 p, .slice ca nr cc]) (k : Blk W G #[c0, c1] 58) : (execOp a.eval { dst := none, op := Op.store 58 (Operand.tmp 8) (Operand.tmp 49), type := 0, pos := pz, after := #[{ on := 12, ground := Ground.data }, { on := 8, ground := Ground.data }, { on := 6, ground := Ground.chain }, { on := 0, ground := Ground.phase }, { on := 1, ground := Ground.phase }, { on := 2, ground := Ground.phase }, { on := 3, ground := Ground.phase }, { on := 4, ground := Ground.phase }, { on := 5, ground := Ground.phase }, { on := 6, ground := Ground.phase }, { on := 7, ground := Ground.phase }, { on := 8, ground := Ground.phase }, { on := 9, ground := Ground.textOnly Departure.lateStores }, { on := 10, ground := Ground.textOnly Departure.lateStores }, { on := 11, ground := Ground.textOnly Departure.lateStores }, { on := 12, ground := Ground.phase }, { on := 13, ground := Ground.phase }], guard := none }).run Tryz.prog W = .ok .skip ((W.setCell ⟨G, 0, none⟩ (.int .i64 p)).setCell ⟨G, 1, none⟩ (.slice ca nr cc)) := by
  obtain ⟨q1, q2, q3⟩ := k.two'
  go_simp
theorem run11_15 {pz : String} (a : Act) (W : World) (G : Nat) (A1 A2 A3 : Option Addr) (M1 D1 M2 D2 M3 D3 : Nat) (c0 c1 c2 : Value) (h1 : a.tmps[9]?.getD undef = .pointer (some ⟨G, 0, none⟩)) (h2 : a.tmps[50]?.getD undef = .agg #[.slice A1 M1 D1, .slice A2 M2 D2, .slice A3 M3 D3]) (k : Blk W G #[c0, c1, c2] 38) : (execOp a.eval { dst := none, op := Op.store 38 (Operand.tmp 9) (Operand.tmp 50), type := 0, pos := pz, after := #[{ on := 13, ground := Ground.data }, { on := 9, ground := Ground.data }, { on := 14, ground := Ground.chain }, { on := 0, ground := Ground.phase }, { on := 1, ground := Ground.phase }, { on := 2, ground := Ground.phase }, { on := 3, ground := Ground.phase }, { on := 4, ground := Ground.phase }, { on := 5, ground := Ground.phase }, { on := 6, ground := Ground.phase }, { on := 7, ground := Ground.phase }, { on := 8, ground := Ground.phase }, { on := 9, ground := Ground.phase }, { on := 10, ground := Ground.textOnly Departure.lateStores }, { on := 11, ground := Ground.textOnly Departure.lateStores }, { on := 12, ground := Ground.phase }, { on := 13, ground := Ground.phase }, { on := 14, ground := Ground.phase }], guard := none }).run Tryz.prog W = .ok .skip (((W.setCell ⟨G, 0, none⟩ (.slice A1 M1 D1)).setCell ⟨G, 1, none⟩ (.slice A2 M2 D2)).setCell ⟨G, 2, none⟩ (.slice A3 M3 D3)) := by
  obtain ⟨q1, q2, q3, q4⟩ := k.three
  go_simp
theorem run11_16 {pz : String} (a : Act) (W : World) (u : Value) (h : a.tmps[51]?.getD undef = u) : (execOp a.eval { dst := some 10, op := Op.assign (Operand.tmp 51), type := 3, pos := pz, after := #[{ on := 10, ground := Ground.data }, { on := 15, ground := Ground.chain }, { on := 0, ground := Ground.phase }, { on := 1, ground := Ground.phase }, { on := 2, ground := Ground.phase }, { on := 3, ground := Ground.phase }, { on := 4, ground := Ground.phase }, { on := 5, ground := Ground.phase }, { on := 6, ground := Ground.phase }, { on := 7, ground := Ground.phase }, { on := 8, ground := Ground.phase }, { on := 9, ground := Ground.phase }, { on := 10, ground := Ground.phase }, { on := 11, ground := Ground.textOnly Departure.lateStores }, { on := 12, ground := Ground.phase }, { on := 13, ground := Ground.phase }, { on := 14, ground := Ground.phase }, { on := 15, ground := Ground.phase }], guard := none }).run Tryz.prog W = .ok (.value u) W := by
  go_simp
theorem run11_17 {pz : String} (a : Act) (W : World) (u : Value) (h : a.tmps[52]?.getD undef = u) : (execOp a.eval { dst := some 11, op := Op.assign (Operand.tmp 52), type := 3, pos := pz, after := #[{ on := 11, ground := Ground.data }, { on := 16, ground := Ground.chain }, { on := 0, ground := Ground.phase }, { on := 1, ground := Ground.phase }, { on := 2, ground := Ground.phase }, { on := 3, ground := Ground.phase }, { on := 4, ground := Ground.phase }, { on := 5, ground := Ground.phase }, { on := 6, ground := Ground.phase }, { on := 7, ground := Ground.phase }, { on := 8, ground := Ground.phase }, { on := 9, ground := Ground.phase }, { on := 10, ground := Ground.phase }, { on := 11, ground := Ground.phase }, { on := 12, ground := Ground.phase }, { on := 13, ground := Ground.phase }, { on := 14, ground := Ground.phase }, { on := 15, ground := Ground.phase }, { on := 16, ground := Ground.phase }], guard := none }).run Tryz.prog W = .ok (.value u) W := by
  go_simp

set_option maxHeartbeats 2000000 in
theorem region11 {pz : String} (A0 : Act) (W0 : World) (GA GB : Nat) (Q : Exit → Act → World → Prop) (pc : Int) (ka : Option Addr) (kn kc : Nat) (kz : List Int) (a1 a2 a3 : Option Addr) (n1 c1 n2 c2 n3 c3 : Nat) (x1 x2 x3 : List Int) (ra : Option Addr) (rn rc : Nat) (rs : List Rg) (R : Res) (hsz : A0.tmps.size = 187) (hA2 : A0.eval (.tmp 2) = .slice ra rn rc) (hA3 : A0.eval (.tmp 3) = .pointer (some ⟨GA, 0, none⟩)) (hA4 : A0.eval (.tmp 4) = .pointer (some ⟨GB, 0, none⟩))
    (kc2 : Blk W0 GA #[.int .i64 pc, .slice ka kn kc] 52) (km2 : Blk W0 GB #[.slice a1 n1 c1, .slice a2 n2 c2, .slice a3 n3 c3] 53) (hc2 : IS W0 ka kn kc kz) (h12 : BS W0 a1 n1 c1 x1) (h22 : BS W0 a2 n2 c2 x2) (h32 : BS W0 a3 n3 c3 x3) (hr2 : RS W0 ra rn rc rs) (hkn : kn ≤ 1048576) (hn : n1 + n2 + n3 ≤ 1048576) (hrn : rn ≤ 1048576)
    (HR : Hid (stepF pc kn kz n1 n2 n3 x1 x2 x3 rs rn = R)) (hA0 : A0 = putL A0 [(42, undef), (43, undef), (44, undef), (45, undef), (46, undef), (47, undef), (48, undef), (41, undef), (49, undef), (50, undef), (51, undef), (52, undef), (8, undef), (9, undef), (10, undef), (11, undef)])
    (hend : ∀ (y0 y1 y2 y3 y4 y5 y6 y7 y8 y9 y10 y11 : Value) (ca : Option Addr) (nr cc : Nat) (A1 : Option Addr) (M1 D1 : Nat) (A2 : Option Addr) (M2 D2 : Nat) (A3 : Option Addr) (M3 D3 : Nat) (G0 G1 : Nat) (W : World), Below W0.heap.size W0 W → OI W W0.heap.size (.slice ca nr cc) R.rg → Own3 W W0.heap.size (.slice A1 M1 D1) (.slice A2 M2 D2) (.slice A3 M3 D3) R.x1 R.x2 R.x3 → W0.heap.size ≤ G0 → W0.heap.size ≤ G1 →
      Blk W G0 #[.int .i64 R.pc, .slice ca nr cc] 58 → Blk W G1 #[.slice A1 M1 D1, .slice A2 M2 D2, .slice A3 M3 D3] 38 → Q .normal (putL A0 [(42, y0), (43, y1), (44, y2), (45, y3), (46, y4), (47, y5), (48, y6), (41, y7), (49, y8), (50, y9), (51, y10), (52, y11), (8, .pointer (some ⟨G0, 0, none⟩)), (9, .pointer (some ⟨G1, 0, none⟩)), (10, .int .i64 R.did), (11, .int .i64 R.num)]) W) :
    (Code.region 11 #[{ dst := some 42, op := Op.load 52 (Operand.tmp 3), type := 52, pos := pz, after := #[], guard := none }, { dst := some 43, op := Op.call { callee := Callee.value (Operand.func 21), args := #[Operand.tmp 42], argTypes := #[52] }, type := 58, pos := pz, after := #[{ on := 0, ground := Ground.data }], guard := none }, { dst := some 44, op := Op.load 53 (Operand.tmp 4), type := 53, pos := pz, after := #[], guard := none }, { dst := some 45, op := Op.call { callee := Callee.value (Operand.func 22), args := #[Operand.tmp 44], argTypes := #[53] }, type := 38, pos := pz, after := #[{ on := 2, ground := Ground.data }, { on := 1, ground := Ground.chain }], guard := none }, { dst := some 46, op := Op.move (Operand.tmp 2), type := 54, pos := pz, after := #[], guard := none }, { dst := some 47, op := Op.call { callee := Callee.value (Operand.func 23), args := #[Operand.tmp 46], argTypes := #[54] }, type := 63, pos := pz, after := #[{ on := 4, ground := Ground.data }, { on := 3, ground := Ground.chain }], guard := none }, { dst := some 48, op := Op.call { callee := Callee.value (Operand.func 20), args := #[Operand.tmp 43, Operand.tmp 45, Operand.tmp 47], argTypes := #[58, 38, 63] }, type := 59, pos := pz, after := #[{ on := 1, ground := Ground.data }, { on := 3, ground := Ground.data }, { on := 5, ground := Ground.data }, { on := 5, ground := Ground.chain }], guard := none }, { dst := some 41, op := Op.move (Operand.tmp 48), type := 59, pos := pz, after := #[{ on := 6, ground := Ground.data }], guard := none }, { dst := some 49, op := Op.extract (Operand.tmp 41) 0, type := 58, pos := pz, after := #[{ on := 7, ground := Ground.data }], guard := none }, { dst := some 50, op := Op.extract (Operand.tmp 41) 1, type := 38, pos := pz, after := #[{ on := 7, ground := Ground.data }, { on := 14, ground := Ground.gcOnly Departure.lateStores }], guard := none }, { dst := some 51, op := Op.extract (Operand.tmp 41) 2, type := 3, pos := pz, after := #[{ on := 7, ground := Ground.data }, { on := 15, ground := Ground.gcOnly Departure.lateStores }], guard := none }, { dst := some 52, op := Op.extract (Operand.tmp 41) 3, type := 3, pos := pz, after := #[{ on := 7, ground := Ground.data }, { on := 16, ground := Ground.gcOnly Departure.lateStores }], guard := none }, { dst := some 8, op := Op.alloc 58, type := 0, pos := pz, after := #[], guard := none }, { dst := some 9, op := Op.alloc 38, type := 0, pos := pz, after := #[], guard := none }, { dst := none, op := Op.store 58 (Operand.tmp 8) (Operand.tmp 49), type := 0, pos := pz, after := #[{ on := 12, ground := Ground.data }, { on := 8, ground := Ground.data }, { on := 6, ground := Ground.chain }, { on := 0, ground := Ground.phase }, { on := 1, ground := Ground.phase }, { on := 2, ground := Ground.phase }, { on := 3, ground := Ground.phase }, { on := 4, ground := Ground.phase }, { on := 5, ground := Ground.phase }, { on := 6, ground := Ground.phase }, { on := 7, ground := Ground.phase }, { on := 8, ground := Ground.phase }, { on := 9, ground := Ground.textOnly Departure.lateStores }, { on := 10, ground := Ground.textOnly Departure.lateStores }, { on := 11, ground := Ground.textOnly Departure.lateStores }, { on := 12, ground := Ground.phase }, { on := 13, ground := Ground.phase }], guard := none }, { dst := none, op := Op.store 38 (Operand.tmp 9) (Operand.tmp 50), type := 0, pos := pz, after := #[{ on := 13, ground := Ground.data }, { on := 9, ground := Ground.data }, { on := 14, ground := Ground.chain }, { on := 0, ground := Ground.phase }, { on := 1, ground := Ground.phase }, { on := 2, ground := Ground.phase }, { on := 3, ground := Ground.phase }, { on := 4, ground := Ground.phase }, { on := 5, ground := Ground.phase }, { on := 6, ground := Ground.phase }, { on := 7, ground := Ground.phase }, { on := 8, ground := Ground.phase }, { on := 9, ground := Ground.phase }, { on := 10, ground := Ground.textOnly Departure.lateStores }, { on := 11, ground := Ground.textOnly Departure.lateStores }, { on := 12, ground := Ground.phase }, { on := 13, ground := Ground.phase }, { on := 14, ground := Ground.phase }], guard := none }, { dst := some 10, op := Op.assign (Operand.tmp 51), type := 3, pos := pz, after := #[{ on := 10, ground := Ground.data }, { on := 15, ground := Ground.chain }, { on := 0, ground := Ground.phase }, { on := 1, ground := Ground.phase }, { on := 2, ground := Ground.phase }, { on := 3, ground := Ground.phase }, { on := 4, ground := Ground.phase }, { on := 5, ground := Ground.phase }, { on := 6, ground := Ground.phase }, { on := 7, ground := Ground.phase }, { on := 8, ground := Ground.phase }, { on := 9, ground := Ground.phase }, { on := 10, ground := Ground.phase }, { on := 11, ground := Ground.textOnly Departure.lateStores }, { on := 12, ground := Ground.phase }, { on := 13, ground := Ground.phase }, { on := 14, ground := Ground.phase }, { on := 15, ground := Ground.phase }], guard := none }, { dst := some 11, op := Op.assign (Operand.tmp 52), type := 3, pos := pz, after := #[{ on := 11, ground := Ground.data }, { on := 16, ground := Ground.chain }, { on := 0, ground := Ground.phase }, { on := 1, ground := Ground.phase }, { on := 2, ground := Ground.phase }, { on := 3, ground := Ground.phase }, { on := 4, ground := Ground.phase }, { on := 5, ground := Ground.phase }, { on := 6, ground := Ground.phase }, { on := 7, ground := Ground.phase }, { on := 8, ground := Ground.phase }, { on := 9, ground := Ground.phase }, { on := 10, ground := Ground.phase }, { on := 11, ground := Ground.phase }, { on := 12, ground := Ground.phase }, { on := 13, ground := Ground.phase }, { on := 14, ground := Ground.phase }, { on := 15, ground := Ground.phase }, { on := 16, ground := Ground.phase }], guard := none }] true).wp Tryz.prog Q A0 W0 := by
  have m0 := hc2.2.1
  have m1 := h12.2.1
  have m2 := h22.2.1
  have m3 := h32.2.1
  have m4 := hr2.2.1
  have SC := hide (show kz.length ≤ maxLen ∧ (∀ z ∈ kz, wfi z) ∧ kz.length = kn from ⟨by rw [hc2.1]; exact m0, hc2.2.2.1, hc2.1⟩)
  have S1 := hide (show x1.length ≤ maxLen ∧ (∀ z ∈ x1, 0 ≤ z ∧ z ≤ 255) ∧ x1.length = n1 from ⟨by rw [h12.1]; exact m1, h12.2.2.1, h12.1⟩)
  have S2 := hide (show x2.length ≤ maxLen ∧ (∀ z ∈ x2, 0 ≤ z ∧ z ≤ 255) ∧ x2.length = n2 from ⟨by rw [h22.1]; exact m2, h22.2.2.1, h22.1⟩)
  have S3 := hide (show x3.length ≤ maxLen ∧ (∀ z ∈ x3, 0 ≤ z ∧ z ≤ 255) ∧ x3.length = n3 from ⟨by rw [h32.1]; exact m3, h32.2.2.1, h32.1⟩)
  have SR := hide (show rs.length ≤ maxLen ∧ (∀ g ∈ rs, wfi g.1 ∧ wfi g.2.1 ∧ wfi g.2.2.1) ∧ rs.length = rn from ⟨by rw [hr2.1]; exact m4, hr2.2.2.1, hr2.1⟩)
  have HEND := hide hend
  have HA0 := hide hA0
  clear hend hA0
  refine wp_region_inv0 (by kernel_rfl) (fun A0 listed a W => ∃ v : SV, listed = v.listed ∧ a = putL A0 (sl11 v) ∧ IF W0 kn n1 n2 n3 rn pc kz x1 x2 x3 rs R ka kc a1 c1 a2 c2 a3 c3 ra rc v W) ?_ ?_ ?_
  · exact ⟨⟨false, false, false, false, false, false, false, false, false, false, false, false, false, false, false, false, false, false, undef, undef, undef, undef, undef, undef, undef, undef, undef, undef, undef, undef, undef, undef, undef, undef, none, 0, 0, none, 0, 0, none, 0, 0, none, 0, 0, 0, 0⟩, rfl, HA0.out, ⟨(fun f => by cases f), (fun f => by cases f), (fun f => by cases f), (fun f => by cases f), (fun f => by cases f), (fun f => by cases f), (fun f => by cases f), (fun f => by cases f), (fun _ => rfl), (fun _ => rfl), (fun f => by cases f), (fun f => by cases f), (fun _ => ⟨rfl, rfl, rfl, rfl, rfl, rfl, rfl⟩), ⟨(Below.refl _ _).drew, (fun f _ => by cases f), (fun f _ => by cases f), (fun f _ => by cases f), (fun f => by cases f), (fun f => by cases f), (fun f => by cases f)⟩⟩⟩
  · intro listed a W i K hI hi hK
    obtain ⟨v, rfl, rfl, H⟩ := hI
    have hlt : i < 18 := by obtain ⟨_, o, ho, _⟩ := mem_ready.1 hi; exact (Array.getElem?_eq_some_iff.1 ho).1
    have hb := (mem_ready.1 hi).1
    have HH := hide H
    have F := hide H.F
    clear H
    rcases (show i = 0 ∨ i = 1 ∨ i = 2 ∨ i = 3 ∨ i = 4 ∨ i = 5 ∨ i = 6 ∨ i = 7 ∨ i = 8 ∨ i = 9 ∨ i = 10 ∨ i = 11 ∨ i = 12 ∨ i = 13 ∨ i = 14 ∨ i = 15 ∨ i = 16 ∨ i = 17 by omega) with rfl | rfl | rfl | rfl | rfl | rfl | rfl | rfl | rfl | rfl | rfl | rfl | rfl | rfl | rfl | rfl | rfl | rfl
    · have f0 : v.b0 = false := hb
      have v0 := ev11_a3 v hA3
      have hrun := run11_0 (pz := pz) _ W GA pc ka kn kc v0 (kc2.below F.out.hB)
      have hfr : (putL A0 (sl11 v)).put (some 42) (.agg #[.int .i64 pc, .slice ka kn kc]) = putL A0 (sl11 { v with b0 := true, y0 := .agg #[.int .i64 pc, .slice ka kn kc] }) := put11_0 v { v with b0 := true, y0 := .agg #[.int .i64 pc, .slice ka kn kc] } (.agg #[.int .i64 pc, .slice ka kn kc]) (by rfl)
      exact wpOp_value (o := { dst := some 42, op := Op.load 52 (Operand.tmp 3), type := 52, pos := pz, after := #[], guard := none }) (by kernel_rfl) rfl hrun (hK _ _ ⟨{ v with b0 := true, y0 := .agg #[.int .i64 pc, .slice ka kn kc] }, rfl, hfr, ⟨(fun _ => rfl), HH.out.e2, HH.out.e4, HH.out.e7, HH.out.e8, HH.out.e9, HH.out.e10, HH.out.e11, HH.out.e12, HH.out.e13, HH.out.e16, HH.out.e17, HH.out.e6, ⟨F.out.hB, F.out.p1, F.out.p3, F.out.p5, F.out.p6, F.out.p12, F.out.p13⟩⟩⟩)
    · have f1 : v.b1 = false := hb
      have t0 : v.b0 = true := ready_pre (o := { dst := some 43, op := Op.call { callee := Callee.value (Operand.func 21), args := #[Operand.tmp 42], argTypes := #[52] }, type := 58, pos := pz, after := #[{ on := 0, ground := Ground.data }], guard := none }) hi (by kernel_rfl) ⟨0, .data⟩ (by simp) rfl
      have u0 := HH.out.e0 t0
      have v0 := ev11_0 v hsz
      rw [u0] at v0
      have hrun := run11_1 (pz := pz) _ W _ v0
      refine wpOp_call (o := { dst := some 43, op := Op.call { callee := Callee.value (Operand.func 21), args := #[Operand.tmp 42], argTypes := #[52] }, type := 58, pos := pz, after := #[{ on := 0, ground := Ground.data }], guard := none }) (by kernel_rfl) rfl hrun (toCore_any pc ka kn kc kz _ (hc2.below F.out.hB) hkn) ?_
      rintro e W' ⟨g, hg, rfl, r, hbb⟩
      have hfr : (putL A0 (sl11 v)).put (some 43) (.agg #[.int .i64 pc, .slice (some ⟨g, 0, none⟩) kn kn]) = putL A0 (sl11 { v with b1 := true, y1 := .agg #[.int .i64 pc, .slice (some ⟨g, 0, none⟩) kn kn] }) := put11_1 v { v with b1 := true, y1 := .agg #[.int .i64 pc, .slice (some ⟨g, 0, none⟩) kn kn] } (.agg #[.int .i64 pc, .slice (some ⟨g, 0, none⟩) kn kn]) (by rfl)
      exact ⟨_, rfl, hK _ _ ⟨{ v with b1 := true, y1 := .agg #[.int .i64 pc, .slice (some ⟨g, 0, none⟩) kn kn] }, rfl, hfr, ⟨HH.out.e0, HH.out.e2, HH.out.e4, HH.out.e7, HH.out.e8, HH.out.e9, HH.out.e10, HH.out.e11, HH.out.e12, HH.out.e13, HH.out.e16, HH.out.e17, HH.out.e6, ((F.out.below hbb).at1 g r)⟩⟩⟩
    · have f2 : v.b2 = false := hb
      have v0 := ev11_a4 v hA4
      have hrun := run11_2 (pz := pz) _ W GB a1 a2 a3 n1 c1 n2 c2 n3 c3 v0 (km2.below F.out.hB)
      have hfr : (putL A0 (sl11 v)).put (some 44) (.agg #[.slice a1 n1 c1, .slice a2 n2 c2, .slice a3 n3 c3]) = putL A0 (sl11 { v with b2 := true, y2 := .agg #[.slice a1 n1 c1, .slice a2 n2 c2, .slice a3 n3 c3] }) := put11_2 v { v with b2 := true, y2 := .agg #[.slice a1 n1 c1, .slice a2 n2 c2, .slice a3 n3 c3] } (.agg #[.slice a1 n1 c1, .slice a2 n2 c2, .slice a3 n3 c3]) (by rfl)
      exact wpOp_value (o := { dst := some 44, op := Op.load 53 (Operand.tmp 4), type := 53, pos := pz, after := #[], guard := none }) (by kernel_rfl) rfl hrun (hK _ _ ⟨{ v with b2 := true, y2 := .agg #[.slice a1 n1 c1, .slice a2 n2 c2, .slice a3 n3 c3] }, rfl, hfr, ⟨HH.out.e0, (fun _ => rfl), HH.out.e4, HH.out.e7, HH.out.e8, HH.out.e9, HH.out.e10, HH.out.e11, HH.out.e12, HH.out.e13, HH.out.e16, HH.out.e17, HH.out.e6, ⟨F.out.hB, F.out.p1, F.out.p3, F.out.p5, F.out.p6, F.out.p12, F.out.p13⟩⟩⟩)
    · have f3 : v.b3 = false := hb
      have t2 : v.b2 = true := ready_pre (o := { dst := some 45, op := Op.call { callee := Callee.value (Operand.func 22), args := #[Operand.tmp 44], argTypes := #[53] }, type := 38, pos := pz, after := #[{ on := 2, ground := Ground.data }, { on := 1, ground := Ground.chain }], guard := none }) hi (by kernel_rfl) ⟨2, .data⟩ (by simp) rfl
      have u2 := HH.out.e2 t2
      have v0 := ev11_2 v hsz
      rw [u2] at v0
      have hrun := run11_3 (pz := pz) _ W _ v0
      refine wpOp_call (o := { dst := some 45, op := Op.call { callee := Callee.value (Operand.func 22), args := #[Operand.tmp 44], argTypes := #[53] }, type := 38, pos := pz, after := #[{ on := 2, ground := Ground.data }, { on := 1, ground := Ground.chain }], guard := none }) (by kernel_rfl) rfl hrun (toMem_any a1 a2 a3 n1 c1 n2 c2 n3 c3 x1 x2 x3 _ (h12.below F.out.hB) (h22.below F.out.hB) (h32.below F.out.hB) hn) ?_
      rintro e W' ⟨g1, g2, g3, rfl, _, _, _, r1, r2, r3, hbb⟩
      have hfr : (putL A0 (sl11 v)).put (some 45) (.agg #[.slice (some ⟨g1, 0, none⟩) n1 n1, .slice (some ⟨g2, 0, none⟩) n2 n2, .slice (some ⟨g3, 0, none⟩) n3 n3]) = putL A0 (sl11 { v with b3 := true, y3 := .agg #[.slice (some ⟨g1, 0, none⟩) n1 n1, .slice (some ⟨g2, 0, none⟩) n2 n2, .slice (some ⟨g3, 0, none⟩) n3 n3] }) := put11_3 v { v with b3 := true, y3 := .agg #[.slice (some ⟨g1, 0, none⟩) n1 n1, .slice (some ⟨g2, 0, none⟩) n2 n2, .slice (some ⟨g3, 0, none⟩) n3 n3] } (.agg #[.slice (some ⟨g1, 0, none⟩) n1 n1, .slice (some ⟨g2, 0, none⟩) n2 n2, .slice (some ⟨g3, 0, none⟩) n3 n3]) (by rfl)
      exact ⟨_, rfl, hK _ _ ⟨{ v with b3 := true, y3 := .agg #[.slice (some ⟨g1, 0, none⟩) n1 n1, .slice (some ⟨g2, 0, none⟩) n2 n2, .slice (some ⟨g3, 0, none⟩) n3 n3] }, rfl, hfr, ⟨HH.out.e0, HH.out.e2, HH.out.e4, HH.out.e7, HH.out.e8, HH.out.e9, HH.out.e10, HH.out.e11, HH.out.e12, HH.out.e13, HH.out.e16, HH.out.e17, HH.out.e6, ((F.out.below hbb).at3 g1 g2 g3 r1 r2 r3)⟩⟩⟩
    · have f4 : v.b4 = false := hb
      have v0 := ev11_a2 v hA2
      have hrun := run11_4 (pz := pz) _ W _ v0
      have hfr : (putL A0 (sl11 v)).put (some 46) (.slice ra rn rc) = putL A0 (sl11 { v with b4 := true, y4 := .slice ra rn rc }) := put11_4 v { v with b4 := true, y4 := .slice ra rn rc } (.slice ra rn rc) (by rfl)
      exact wpOp_value (o := { dst := some 46, op := Op.move (Operand.tmp 2), type := 54, pos := pz, after := #[], guard := none }) (by kernel_rfl) rfl hrun (hK _ _ ⟨{ v with b4 := true, y4 := .slice ra rn rc }, rfl, hfr, ⟨HH.out.e0, HH.out.e2, (fun _ => rfl), HH.out.e7, HH.out.e8, HH.out.e9, HH.out.e10, HH.out.e11, HH.out.e12, HH.out.e13, HH.out.e16, HH.out.e17, HH.out.e6, ⟨F.out.hB, F.out.p1, F.out.p3, F.out.p5, F.out.p6, F.out.p12, F.out.p13⟩⟩⟩)
    · have f5 : v.b5 = false := hb
      have t4 : v.b4 = true := ready_pre (o := { dst := some 47, op := Op.call { callee := Callee.value (Operand.func 23), args := #[Operand.tmp 46], argTypes := #[54] }, type := 63, pos := pz, after := #[{ on := 4, ground := Ground.data }, { on := 3, ground := Ground.chain }], guard := none }) hi (by kernel_rfl) ⟨4, .data⟩ (by simp) rfl
      have u4 := HH.out.e4 t4
      have v0 := ev11_4 v hsz
      rw [u4] at v0
      have hrun := run11_5 (pz := pz) _ W _ v0
      refine wpOp_call (o := { dst := some 47, op := Op.call { callee := Callee.value (Operand.func 23), args := #[Operand.tmp 46], argTypes := #[54] }, type := 63, pos := pz, after := #[{ on := 4, ground := Ground.data }, { on := 3, ground := Ground.chain }], guard := none }) (by kernel_rfl) rfl hrun (toRegionS_any ra rn rc rs _ (hr2.below F.out.hB) hrn) ?_
      rintro e W' ⟨g, hg, rfl, r, hbb⟩
      have hfr : (putL A0 (sl11 v)).put (some 47) (.slice (some ⟨g, 0, none⟩) rn rn) = putL A0 (sl11 { v with b5 := true, y5 := .slice (some ⟨g, 0, none⟩) rn rn }) := put11_5 v { v with b5 := true, y5 := .slice (some ⟨g, 0, none⟩) rn rn } (.slice (some ⟨g, 0, none⟩) rn rn) (by rfl)
      exact ⟨_, rfl, hK _ _ ⟨{ v with b5 := true, y5 := .slice (some ⟨g, 0, none⟩) rn rn }, rfl, hfr, ⟨HH.out.e0, HH.out.e2, HH.out.e4, HH.out.e7, HH.out.e8, HH.out.e9, HH.out.e10, HH.out.e11, HH.out.e12, HH.out.e13, HH.out.e16, HH.out.e17, HH.out.e6, ((F.out.below hbb).at5 g r)⟩⟩⟩
    · have f6 : v.b6 = false := hb
      have t1 : v.b1 = true := ready_pre (o := { dst := some 48, op := Op.call { callee := Callee.value (Operand.func 20), args := #[Operand.tmp 43, Operand.tmp 45, Operand.tmp 47], argTypes := #[58, 38, 63] }, type := 59, pos := pz, after := #[{ on := 1, ground := Ground.data }, { on := 3, ground := Ground.data }, { on := 5, ground := Ground.data }, { on := 5, ground := Ground.chain }], guard := none }) hi (by kernel_rfl) ⟨1, .data⟩ (by simp) rfl
      have t3 : v.b3 = true := ready_pre (o := { dst := some 48, op := Op.call { callee := Callee.value (Operand.func 20), args := #[Operand.tmp 43, Operand.tmp 45, Operand.tmp 47], argTypes := #[58, 38, 63] }, type := 59, pos := pz, after := #[{ on := 1, ground := Ground.data }, { on := 3, ground := Ground.data }, { on := 5, ground := Ground.data }, { on := 5, ground := Ground.chain }], guard := none }) hi (by kernel_rfl) ⟨3, .data⟩ (by simp) rfl
      have t5 : v.b5 = true := ready_pre (o := { dst := some 48, op := Op.call { callee := Callee.value (Operand.func 20), args := #[Operand.tmp 43, Operand.tmp 45, Operand.tmp 47], argTypes := #[58, 38, 63] }, type := 59, pos := pz, after := #[{ on := 1, ground := Ground.data }, { on := 3, ground := Ground.data }, { on := 5, ground := Ground.data }, { on := 5, ground := Ground.chain }], guard := none }) hi (by kernel_rfl) ⟨5, .data⟩ (by simp) rfl
      obtain ⟨z7, z8, z9, z10, z11, z14, z15⟩ := HH.out.e6 f6
      obtain ⟨g, u1, r⟩ := F.out.p1 t1 f6
      obtain ⟨g1, g2, g3, u3, r1, r2, r3⟩ := F.out.p3 t3 f6
      obtain ⟨gr, u5, rr⟩ := F.out.p5 t5 f6
      have IC := r.is SC.out.1 SC.out.2.1 _ _ SC.out.2.2
      have I1 := r1.bs S1.out.1 S1.out.2.1 _ _ S1.out.2.2
      have I2 := r2.bs S2.out.1 S2.out.2.1 _ _ S2.out.2.2
      have I3 := r3.bs S3.out.1 S3.out.2.1 _ _ S3.out.2.2
      have IR := rr.rs SR.out.1 SR.out.2.1 _ _ SR.out.2.2
      have hlow : ∀ b off, (some (⟨gr, 0, none⟩ : Addr)) = some ⟨b, off, none⟩ → b < W.heap.size := fun b off e => by injection e with e; injection e with e1; have := rr.lt; omega
      have v0 := ev11_1 v hsz
      rw [u1] at v0
      have v1 := ev11_3 v hsz
      rw [u3] at v1
      have v2 := ev11_5 v hsz
      rw [u5] at v2
      have hrun := run11_6 (pz := pz) _ W _ _ _ v0 v1 v2
      refine wpOp_call (o := { dst := some 48, op := Op.call { callee := Callee.value (Operand.func 20), args := #[Operand.tmp 43, Operand.tmp 45, Operand.tmp 47], argTypes := #[58, 38, 63] }, type := 59, pos := pz, after := #[{ on := 1, ground := Ground.data }, { on := 3, ground := Ground.data }, { on := 5, ground := Ground.data }, { on := 5, ground := Ground.chain }], guard := none }) (by kernel_rfl) rfl hrun (sStep_any pc g 0 kn kn kz g1 0 g2 0 g3 0 n1 n1 n2 n2 n3 n3 x1 x2 x3 (some ⟨gr, 0, none⟩) rn rn rs _ IC I1 I2 I3 IR hkn hn) ?_
      rw [HR.out]
      rintro e W' hp
      obtain ⟨y6', ca', nr', cc', A1', M1', D1', A2', M2', D2', A3', M3', D3', rfl, F'⟩ := F.out.at6 z14 z15 hp
      have hfr : (putL A0 (sl11 v)).put (some 48) (y6') = putL A0 (sl11 { v with b6 := true, y6 := y6', ca := ca', nr := nr', cc := cc', A1 := A1', M1 := M1', D1 := D1', A2 := A2', M2 := M2', D2 := D2', A3 := A3', M3 := M3', D3 := D3' }) := put11_6 v { v with b6 := true, y6 := y6', ca := ca', nr := nr', cc := cc', A1 := A1', M1 := M1', D1 := D1', A2 := A2', M2 := M2', D2 := D2', A3 := A3', M3 := M3', D3 := D3' } (y6') (by rfl)
      exact ⟨_, rfl, hK _ _ ⟨{ v with b6 := true, y6 := y6', ca := ca', nr := nr', cc := cc', A1 := A1', M1 := M1', D1 := D1', A2 := A2', M2 := M2', D2 := D2', A3 := A3', M3 := M3', D3 := D3' }, rfl, hfr, ⟨HH.out.e0, HH.out.e2, HH.out.e4, (fun f => by have f' : v.b7 = true := f; rw [z7] at f'; cases f'), (fun f => by have f' : v.b8 = true := f; rw [z8] at f'; cases f'), (fun f => by have f' : v.b9 = true := f; rw [z9] at f'; cases f'), (fun f => HH.out.e10 f), (fun f => HH.out.e11 f), HH.out.e12, HH.out.e13, HH.out.e16, HH.out.e17, (fun f => by cases f), F'⟩⟩⟩
    · have f7 : v.b7 = false := hb
      have t6 : v.b6 = true := ready_pre (o := { dst := some 41, op := Op.move (Operand.tmp 48), type := 59, pos := pz, after := #[{ on := 6, ground := Ground.data }], guard := none }) hi (by kernel_rfl) ⟨6, .data⟩ (by simp) rfl
      have v0 := ev11_6 v hsz
      have hrun := run11_7 (pz := pz) _ W _ v0
      have hfr : (putL A0 (sl11 v)).put (some 41) (v.y6) = putL A0 (sl11 { v with b7 := true, y7 := v.y6 }) := put11_7 v { v with b7 := true, y7 := v.y6 } (v.y6) (by rfl)
      exact wpOp_value (o := { dst := some 41, op := Op.move (Operand.tmp 48), type := 59, pos := pz, after := #[{ on := 6, ground := Ground.data }], guard := none }) (by kernel_rfl) rfl hrun (hK _ _ ⟨{ v with b7 := true, y7 := v.y6 }, rfl, hfr, ⟨HH.out.e0, HH.out.e2, HH.out.e4, (fun _ => ⟨rfl, t6⟩), HH.out.e8, HH.out.e9, HH.out.e10, HH.out.e11, HH.out.e12, HH.out.e13, HH.out.e16, HH.out.e17, (fun f => by have f' : v.b6 = false := f; rw [t6] at f'; cases f'), ⟨F.out.hB, F.out.p1, F.out.p3, F.out.p5, F.out.p6, F.out.p12, F.out.p13⟩⟩⟩)
    · have f8 : v.b8 = false := hb
      have t7 : v.b7 = true := ready_pre (o := { dst := some 49, op := Op.extract (Operand.tmp 41) 0, type := 58, pos := pz, after := #[{ on := 7, ground := Ground.data }], guard := none }) hi (by kernel_rfl) ⟨7, .data⟩ (by simp) rfl
      obtain ⟨u7, t6⟩ := HH.out.e7 t7
      have u6 := (F.out.p6 t6).1
      rw [u6] at u7
      have v0 := ev11_7 v hsz
      rw [u7] at v0
      have hrun := run11_8 (pz := pz) _ W _ _ _ _ v0
      have hfr : (putL A0 (sl11 v)).put (some 49) (.agg #[.int .i64 R.pc, .slice v.ca v.nr v.cc]) = putL A0 (sl11 { v with b8 := true, y8 := .agg #[.int .i64 R.pc, .slice v.ca v.nr v.cc] }) := put11_8 v { v with b8 := true, y8 := .agg #[.int .i64 R.pc, .slice v.ca v.nr v.cc] } (.agg #[.int .i64 R.pc, .slice v.ca v.nr v.cc]) (by rfl)
      exact wpOp_value (o := { dst := some 49, op := Op.extract (Operand.tmp 41) 0, type := 58, pos := pz, after := #[{ on := 7, ground := Ground.data }], guard := none }) (by kernel_rfl) rfl hrun (hK _ _ ⟨{ v with b8 := true, y8 := .agg #[.int .i64 R.pc, .slice v.ca v.nr v.cc] }, rfl, hfr, ⟨HH.out.e0, HH.out.e2, HH.out.e4, HH.out.e7, (fun _ => rfl), HH.out.e9, HH.out.e10, HH.out.e11, HH.out.e12, HH.out.e13, HH.out.e16, HH.out.e17, (fun f => by have f' : v.b6 = false := f; rw [t6] at f'; cases f'), ⟨F.out.hB, F.out.p1, F.out.p3, F.out.p5, F.out.p6, F.out.p12, F.out.p13⟩⟩⟩)
    · have f9 : v.b9 = false := hb
      have t7 : v.b7 = true := ready_pre (o := { dst := some 50, op := Op.extract (Operand.tmp 41) 1, type := 38, pos := pz, after := #[{ on := 7, ground := Ground.data }, { on := 14, ground := Ground.gcOnly Departure.lateStores }], guard := none }) hi (by kernel_rfl) ⟨7, .data⟩ (by simp) rfl
      obtain ⟨u7, t6⟩ := HH.out.e7 t7
      have u6 := (F.out.p6 t6).1
      rw [u6] at u7
      have v0 := ev11_7 v hsz
      rw [u7] at v0
      have hrun := run11_9 (pz := pz) _ W _ _ _ _ v0
      have hfr : (putL A0 (sl11 v)).put (some 50) (.agg #[.slice v.A1 v.M1 v.D1, .slice v.A2 v.M2 v.D2, .slice v.A3 v.M3 v.D3]) = putL A0 (sl11 { v with b9 := true, y9 := .agg #[.slice v.A1 v.M1 v.D1, .slice v.A2 v.M2 v.D2, .slice v.A3 v.M3 v.D3] }) := put11_9 v { v with b9 := true, y9 := .agg #[.slice v.A1 v.M1 v.D1, .slice v.A2 v.M2 v.D2, .slice v.A3 v.M3 v.D3] } (.agg #[.slice v.A1 v.M1 v.D1, .slice v.A2 v.M2 v.D2, .slice v.A3 v.M3 v.D3]) (by rfl)
      exact wpOp_value (o := { dst := some 50, op := Op.extract (Operand.tmp 41) 1, type := 38, pos := pz, after := #[{ on := 7, ground := Ground.data }, { on := 14, ground := Ground.gcOnly Departure.lateStores }], guard := none }) (by kernel_rfl) rfl hrun (hK _ _ ⟨{ v with b9 := true, y9 := .agg #[.slice v.A1 v.M1 v.D1, .slice v.A2 v.M2 v.D2, .slice v.A3 v.M3 v.D3] }, rfl, hfr, ⟨HH.out.e0, HH.out.e2, HH.out.e4, HH.out.e7, HH.out.e8, (fun _ => rfl), HH.out.e10, HH.out.e11, HH.out.e12, HH.out.e13, HH.out.e16, HH.out.e17, (fun f => by have f' : v.b6 = false := f; rw [t6] at f'; cases f'), ⟨F.out.hB, F.out.p1, F.out.p3, F.out.p5, F.out.p6, F.out.p12, F.out.p13⟩⟩⟩)
    · have f10 : v.b10 = false := hb
      have t7 : v.b7 = true := ready_pre (o := { dst := some 51, op := Op.extract (Operand.tmp 41) 2, type := 3, pos := pz, after := #[{ on := 7, ground := Ground.data }, { on := 15, ground := Ground.gcOnly Departure.lateStores }], guard := none }) hi (by kernel_rfl) ⟨7, .data⟩ (by simp) rfl
      obtain ⟨u7, t6⟩ := HH.out.e7 t7
      have u6 := (F.out.p6 t6).1
      rw [u6] at u7
      have v0 := ev11_7 v hsz
      rw [u7] at v0
      have hrun := run11_10 (pz := pz) _ W _ _ _ _ v0
      have hfr : (putL A0 (sl11 v)).put (some 51) (.int .i64 R.did) = putL A0 (sl11 { v with b10 := true, y10 := .int .i64 R.did }) := put11_10 v { v with b10 := true, y10 := .int .i64 R.did } (.int .i64 R.did) (by rfl)
      exact wpOp_value (o := { dst := some 51, op := Op.extract (Operand.tmp 41) 2, type := 3, pos := pz, after := #[{ on := 7, ground := Ground.data }, { on := 15, ground := Ground.gcOnly Departure.lateStores }], guard := none }) (by kernel_rfl) rfl hrun (hK _ _ ⟨{ v with b10 := true, y10 := .int .i64 R.did }, rfl, hfr, ⟨HH.out.e0, HH.out.e2, HH.out.e4, HH.out.e7, HH.out.e8, HH.out.e9, (fun _ => rfl), HH.out.e11, HH.out.e12, HH.out.e13, HH.out.e16, HH.out.e17, (fun f => by have f' : v.b6 = false := f; rw [t6] at f'; cases f'), ⟨F.out.hB, F.out.p1, F.out.p3, F.out.p5, F.out.p6, F.out.p12, F.out.p13⟩⟩⟩)
    · have f11 : v.b11 = false := hb
      have t7 : v.b7 = true := ready_pre (o := { dst := some 52, op := Op.extract (Operand.tmp 41) 3, type := 3, pos := pz, after := #[{ on := 7, ground := Ground.data }, { on := 16, ground := Ground.gcOnly Departure.lateStores }], guard := none }) hi (by kernel_rfl) ⟨7, .data⟩ (by simp) rfl
      obtain ⟨u7, t6⟩ := HH.out.e7 t7
      have u6 := (F.out.p6 t6).1
      rw [u6] at u7
      have v0 := ev11_7 v hsz
      rw [u7] at v0
      have hrun := run11_11 (pz := pz) _ W _ _ _ _ v0
      have hfr : (putL A0 (sl11 v)).put (some 52) (.int .i64 R.num) = putL A0 (sl11 { v with b11 := true, y11 := .int .i64 R.num }) := put11_11 v { v with b11 := true, y11 := .int .i64 R.num } (.int .i64 R.num) (by rfl)
      exact wpOp_value (o := { dst := some 52, op := Op.extract (Operand.tmp 41) 3, type := 3, pos := pz, after := #[{ on := 7, ground := Ground.data }, { on := 16, ground := Ground.gcOnly Departure.lateStores }], guard := none }) (by kernel_rfl) rfl hrun (hK _ _ ⟨{ v with b11 := true, y11 := .int .i64 R.num }, rfl, hfr, ⟨HH.out.e0, HH.out.e2, HH.out.e4, HH.out.e7, HH.out.e8, HH.out.e9, HH.out.e10, (fun _ => rfl), HH.out.e12, HH.out.e13, HH.out.e16, HH.out.e17, (fun f => by have f' : v.b6 = false := f; rw [t6] at f'; cases f'), ⟨F.out.hB, F.out.p1, F.out.p3, F.out.p5, F.out.p6, F.out.p12, F.out.p13⟩⟩⟩)
    · have f12 : v.b12 = false := hb
      have hrun := run11_12 (pz := pz) (putL A0 (sl11 v)) W
      have hfr : (putL A0 (sl11 v)).put (some 8) (.pointer (some ⟨W.heap.size, 0, none⟩)) = putL A0 (sl11 { v with b12 := true, y12 := .pointer (some ⟨W.heap.size, 0, none⟩), G0 := W.heap.size }) := put11_12 v { v with b12 := true, y12 := .pointer (some ⟨W.heap.size, 0, none⟩), G0 := W.heap.size } (.pointer (some ⟨W.heap.size, 0, none⟩)) (by rfl)
      exact wpOp_value (o := { dst := some 8, op := Op.alloc 58, type := 0, pos := pz, after := #[], guard := none }) (by kernel_rfl) rfl hrun (hK _ _ ⟨{ v with b12 := true, y12 := .pointer (some ⟨W.heap.size, 0, none⟩), G0 := W.heap.size }, rfl, hfr, ⟨HH.out.e0, HH.out.e2, HH.out.e4, HH.out.e7, HH.out.e8, HH.out.e9, HH.out.e10, HH.out.e11, (fun f => by cases f), HH.out.e13, HH.out.e16, HH.out.e17, HH.out.e6, (F.out.at12 (HH.out.e12 f12) _ _)⟩⟩)
    · have f13 : v.b13 = false := hb
      have hrun := run11_13 (pz := pz) (putL A0 (sl11 v)) W
      have hfr : (putL A0 (sl11 v)).put (some 9) (.pointer (some ⟨W.heap.size, 0, none⟩)) = putL A0 (sl11 { v with b13 := true, y13 := .pointer (some ⟨W.heap.size, 0, none⟩), G1 := W.heap.size }) := put11_13 v { v with b13 := true, y13 := .pointer (some ⟨W.heap.size, 0, none⟩), G1 := W.heap.size } (.pointer (some ⟨W.heap.size, 0, none⟩)) (by rfl)
      exact wpOp_value (o := { dst := some 9, op := Op.alloc 38, type := 0, pos := pz, after := #[], guard := none }) (by kernel_rfl) rfl hrun (hK _ _ ⟨{ v with b13 := true, y13 := .pointer (some ⟨W.heap.size, 0, none⟩), G1 := W.heap.size }, rfl, hfr, ⟨HH.out.e0, HH.out.e2, HH.out.e4, HH.out.e7, HH.out.e8, HH.out.e9, HH.out.e10, HH.out.e11, HH.out.e12, (fun f => by cases f), HH.out.e16, HH.out.e17, HH.out.e6, (F.out.at13 (HH.out.e13 f13) _ _ _)⟩⟩)
    · have f14 : v.b14 = false := hb
      have t12 : v.b12 = true := ready_pre (o := { dst := none, op := Op.store 58 (Operand.tmp 8) (Operand.tmp 49), type := 0, pos := pz, after := #[{ on := 12, ground := Ground.data }, { on := 8, ground := Ground.data }, { on := 6, ground := Ground.chain }, { on := 0, ground := Ground.phase }, { on := 1, ground := Ground.phase }, { on := 2, ground := Ground.phase }, { on := 3, ground := Ground.phase }, { on := 4, ground := Ground.phase }, { on := 5, ground := Ground.phase }, { on := 6, ground := Ground.phase }, { on := 7, ground := Ground.phase }, { on := 8, ground := Ground.phase }, { on := 9, ground := Ground.textOnly Departure.lateStores }, { on := 10, ground := Ground.textOnly Departure.lateStores }, { on := 11, ground := Ground.textOnly Departure.lateStores }, { on := 12, ground := Ground.phase }, { on := 13, ground := Ground.phase }], guard := none }) hi (by kernel_rfl) ⟨12, .data⟩ (by simp) rfl
      have t8 : v.b8 = true := ready_pre (o := { dst := none, op := Op.store 58 (Operand.tmp 8) (Operand.tmp 49), type := 0, pos := pz, after := #[{ on := 12, ground := Ground.data }, { on := 8, ground := Ground.data }, { on := 6, ground := Ground.chain }, { on := 0, ground := Ground.phase }, { on := 1, ground := Ground.phase }, { on := 2, ground := Ground.phase }, { on := 3, ground := Ground.phase }, { on := 4, ground := Ground.phase }, { on := 5, ground := Ground.phase }, { on := 6, ground := Ground.phase }, { on := 7, ground := Ground.phase }, { on := 8, ground := Ground.phase }, { on := 9, ground := Ground.textOnly Departure.lateStores }, { on := 10, ground := Ground.textOnly Departure.lateStores }, { on := 11, ground := Ground.textOnly Departure.lateStores }, { on := 12, ground := Ground.phase }, { on := 13, ground := Ground.phase }], guard := none }) hi (by kernel_rfl) ⟨8, .data⟩ (by simp) rfl
      have t6 : v.b6 = true := ready_pre (o := { dst := none, op := Op.store 58 (Operand.tmp 8) (Operand.tmp 49), type := 0, pos := pz, after := #[{ on := 12, ground := Ground.data }, { on := 8, ground := Ground.data }, { on := 6, ground := Ground.chain }, { on := 0, ground := Ground.phase }, { on := 1, ground := Ground.phase }, { on := 2, ground := Ground.phase }, { on := 3, ground := Ground.phase }, { on := 4, ground := Ground.phase }, { on := 5, ground := Ground.phase }, { on := 6, ground := Ground.phase }, { on := 7, ground := Ground.phase }, { on := 8, ground := Ground.phase }, { on := 9, ground := Ground.textOnly Departure.lateStores }, { on := 10, ground := Ground.textOnly Departure.lateStores }, { on := 11, ground := Ground.textOnly Departure.lateStores }, { on := 12, ground := Ground.phase }, { on := 13, ground := Ground.phase }], guard := none }) hi (by kernel_rfl) ⟨6, .chain⟩ (by simp) rfl
      have t13 : v.b13 = true := ready_pre (o := { dst := none, op := Op.store 58 (Operand.tmp 8) (Operand.tmp 49), type := 0, pos := pz, after := #[{ on := 12, ground := Ground.data }, { on := 8, ground := Ground.data }, { on := 6, ground := Ground.chain }, { on := 0, ground := Ground.phase }, { on := 1, ground := Ground.phase }, { on := 2, ground := Ground.phase }, { on := 3, ground := Ground.phase }, { on := 4, ground := Ground.phase }, { on := 5, ground := Ground.phase }, { on := 6, ground := Ground.phase }, { on := 7, ground := Ground.phase }, { on := 8, ground := Ground.phase }, { on := 9, ground := Ground.textOnly Departure.lateStores }, { on := 10, ground := Ground.textOnly Departure.lateStores }, { on := 11, ground := Ground.textOnly Departure.lateStores }, { on := 12, ground := Ground.phase }, { on := 13, ground := Ground.phase }], guard := none }) hi (by kernel_rfl) ⟨13, .phase⟩ (by simp) rfl
      have u8 := HH.out.e8 t8
      obtain ⟨u12, _, c0, c1, k14, _⟩ := F.out.p12 t12
      have v0 := ev11_12 v hsz
      rw [u12] at v0
      have v1 := ev11_8 v hsz
      rw [u8] at v1
      have hrun := run11_14 (pz := pz) _ W v.G0 R.pc v.ca v.nr v.cc c0 c1 v0 v1 k14
      have hfr : (putL A0 (sl11 v)).put none undef = putL A0 (sl11 { v with b14 := true }) := same11 v { v with b14 := true } (by rfl)
      exact wpOp_skip (o := { dst := none, op := Op.store 58 (Operand.tmp 8) (Operand.tmp 49), type := 0, pos := pz, after := #[{ on := 12, ground := Ground.data }, { on := 8, ground := Ground.data }, { on := 6, ground := Ground.chain }, { on := 0, ground := Ground.phase }, { on := 1, ground := Ground.phase }, { on := 2, ground := Ground.phase }, { on := 3, ground := Ground.phase }, { on := 4, ground := Ground.phase }, { on := 5, ground := Ground.phase }, { on := 6, ground := Ground.phase }, { on := 7, ground := Ground.phase }, { on := 8, ground := Ground.phase }, { on := 9, ground := Ground.textOnly Departure.lateStores }, { on := 10, ground := Ground.textOnly Departure.lateStores }, { on := 11, ground := Ground.textOnly Departure.lateStores }, { on := 12, ground := Ground.phase }, { on := 13, ground := Ground.phase }], guard := none }) (by kernel_rfl) rfl hrun (hK _ _ ⟨{ v with b14 := true }, rfl, hfr, ⟨HH.out.e0, HH.out.e2, HH.out.e4, HH.out.e7, HH.out.e8, HH.out.e9, HH.out.e10, HH.out.e11, (fun f => by have f' : v.b12 = false := f; rw [t12] at f'; cases f'), HH.out.e13, HH.out.e16, HH.out.e17, (fun f => by have f' : v.b6 = false := f; rw [t6] at f'; cases f'), (F.out.at14 t6 t12 t13)⟩⟩)
    · have f15 : v.b15 = false := hb
      have t13 : v.b13 = true := ready_pre (o := { dst := none, op := Op.store 38 (Operand.tmp 9) (Operand.tmp 50), type := 0, pos := pz, after := #[{ on := 13, ground := Ground.data }, { on := 9, ground := Ground.data }, { on := 14, ground := Ground.chain }, { on := 0, ground := Ground.phase }, { on := 1, ground := Ground.phase }, { on := 2, ground := Ground.phase }, { on := 3, ground := Ground.phase }, { on := 4, ground := Ground.phase }, { on := 5, ground := Ground.phase }, { on := 6, ground := Ground.phase }, { on := 7, ground := Ground.phase }, { on := 8, ground := Ground.phase }, { on := 9, ground := Ground.phase }, { on := 10, ground := Ground.textOnly Departure.lateStores }, { on := 11, ground := Ground.textOnly Departure.lateStores }, { on := 12, ground := Ground.phase }, { on := 13, ground := Ground.phase }, { on := 14, ground := Ground.phase }], guard := none }) hi (by kernel_rfl) ⟨13, .data⟩ (by simp) rfl
      have t9 : v.b9 = true := ready_pre (o := { dst := none, op := Op.store 38 (Operand.tmp 9) (Operand.tmp 50), type := 0, pos := pz, after := #[{ on := 13, ground := Ground.data }, { on := 9, ground := Ground.data }, { on := 14, ground := Ground.chain }, { on := 0, ground := Ground.phase }, { on := 1, ground := Ground.phase }, { on := 2, ground := Ground.phase }, { on := 3, ground := Ground.phase }, { on := 4, ground := Ground.phase }, { on := 5, ground := Ground.phase }, { on := 6, ground := Ground.phase }, { on := 7, ground := Ground.phase }, { on := 8, ground := Ground.phase }, { on := 9, ground := Ground.phase }, { on := 10, ground := Ground.textOnly Departure.lateStores }, { on := 11, ground := Ground.textOnly Departure.lateStores }, { on := 12, ground := Ground.phase }, { on := 13, ground := Ground.phase }, { on := 14, ground := Ground.phase }], guard := none }) hi (by kernel_rfl) ⟨9, .data⟩ (by simp) rfl
      have t6 : v.b6 = true := ready_pre (o := { dst := none, op := Op.store 38 (Operand.tmp 9) (Operand.tmp 50), type := 0, pos := pz, after := #[{ on := 13, ground := Ground.data }, { on := 9, ground := Ground.data }, { on := 14, ground := Ground.chain }, { on := 0, ground := Ground.phase }, { on := 1, ground := Ground.phase }, { on := 2, ground := Ground.phase }, { on := 3, ground := Ground.phase }, { on := 4, ground := Ground.phase }, { on := 5, ground := Ground.phase }, { on := 6, ground := Ground.phase }, { on := 7, ground := Ground.phase }, { on := 8, ground := Ground.phase }, { on := 9, ground := Ground.phase }, { on := 10, ground := Ground.textOnly Departure.lateStores }, { on := 11, ground := Ground.textOnly Departure.lateStores }, { on := 12, ground := Ground.phase }, { on := 13, ground := Ground.phase }, { on := 14, ground := Ground.phase }], guard := none }) hi (by kernel_rfl) ⟨6, .phase⟩ (by simp) rfl
      have t12 : v.b12 = true := ready_pre (o := { dst := none, op := Op.store 38 (Operand.tmp 9) (Operand.tmp 50), type := 0, pos := pz, after := #[{ on := 13, ground := Ground.data }, { on := 9, ground := Ground.data }, { on := 14, ground := Ground.chain }, { on := 0, ground := Ground.phase }, { on := 1, ground := Ground.phase }, { on := 2, ground := Ground.phase }, { on := 3, ground := Ground.phase }, { on := 4, ground := Ground.phase }, { on := 5, ground := Ground.phase }, { on := 6, ground := Ground.phase }, { on := 7, ground := Ground.phase }, { on := 8, ground := Ground.phase }, { on := 9, ground := Ground.phase }, { on := 10, ground := Ground.textOnly Departure.lateStores }, { on := 11, ground := Ground.textOnly Departure.lateStores }, { on := 12, ground := Ground.phase }, { on := 13, ground := Ground.phase }, { on := 14, ground := Ground.phase }], guard := none }) hi (by kernel_rfl) ⟨12, .phase⟩ (by simp) rfl
      have u9 := HH.out.e9 t9
      obtain ⟨u13, _, c0, c1, c2, k15, _⟩ := F.out.p13 t13
      have v0 := ev11_13 v hsz
      rw [u13] at v0
      have v1 := ev11_9 v hsz
      rw [u9] at v1
      have hrun := run11_15 (pz := pz) _ W v.G1 v.A1 v.A2 v.A3 v.M1 v.D1 v.M2 v.D2 v.M3 v.D3 c0 c1 c2 v0 v1 k15
      have hfr : (putL A0 (sl11 v)).put none undef = putL A0 (sl11 { v with b15 := true }) := same11 v { v with b15 := true } (by rfl)
      exact wpOp_skip (o := { dst := none, op := Op.store 38 (Operand.tmp 9) (Operand.tmp 50), type := 0, pos := pz, after := #[{ on := 13, ground := Ground.data }, { on := 9, ground := Ground.data }, { on := 14, ground := Ground.chain }, { on := 0, ground := Ground.phase }, { on := 1, ground := Ground.phase }, { on := 2, ground := Ground.phase }, { on := 3, ground := Ground.phase }, { on := 4, ground := Ground.phase }, { on := 5, ground := Ground.phase }, { on := 6, ground := Ground.phase }, { on := 7, ground := Ground.phase }, { on := 8, ground := Ground.phase }, { on := 9, ground := Ground.phase }, { on := 10, ground := Ground.textOnly Departure.lateStores }, { on := 11, ground := Ground.textOnly Departure.lateStores }, { on := 12, ground := Ground.phase }, { on := 13, ground := Ground.phase }, { on := 14, ground := Ground.phase }], guard := none }) (by kernel_rfl) rfl hrun (hK _ _ ⟨{ v with b15 := true }, rfl, hfr, ⟨HH.out.e0, HH.out.e2, HH.out.e4, HH.out.e7, HH.out.e8, HH.out.e9, HH.out.e10, HH.out.e11, HH.out.e12, (fun f => by have f' : v.b13 = false := f; rw [t13] at f'; cases f'), HH.out.e16, HH.out.e17, (fun f => by have f' : v.b6 = false := f; rw [t6] at f'; cases f'), (F.out.at15 t6 t12 t13)⟩⟩)
    · have f16 : v.b16 = false := hb
      have t10 : v.b10 = true := ready_pre (o := { dst := some 10, op := Op.assign (Operand.tmp 51), type := 3, pos := pz, after := #[{ on := 10, ground := Ground.data }, { on := 15, ground := Ground.chain }, { on := 0, ground := Ground.phase }, { on := 1, ground := Ground.phase }, { on := 2, ground := Ground.phase }, { on := 3, ground := Ground.phase }, { on := 4, ground := Ground.phase }, { on := 5, ground := Ground.phase }, { on := 6, ground := Ground.phase }, { on := 7, ground := Ground.phase }, { on := 8, ground := Ground.phase }, { on := 9, ground := Ground.phase }, { on := 10, ground := Ground.phase }, { on := 11, ground := Ground.textOnly Departure.lateStores }, { on := 12, ground := Ground.phase }, { on := 13, ground := Ground.phase }, { on := 14, ground := Ground.phase }, { on := 15, ground := Ground.phase }], guard := none }) hi (by kernel_rfl) ⟨10, .data⟩ (by simp) rfl
      have u10 := HH.out.e10 t10
      have v0 := ev11_10 v hsz
      rw [u10] at v0
      have hrun := run11_16 (pz := pz) _ W _ v0
      have hfr : (putL A0 (sl11 v)).put (some 10) (.int .i64 R.did) = putL A0 (sl11 { v with b16 := true, y16 := .int .i64 R.did }) := put11_16 v { v with b16 := true, y16 := .int .i64 R.did } (.int .i64 R.did) (by rfl)
      exact wpOp_value (o := { dst := some 10, op := Op.assign (Operand.tmp 51), type := 3, pos := pz, after := #[{ on := 10, ground := Ground.data }, { on := 15, ground := Ground.chain }, { on := 0, ground := Ground.phase }, { on := 1, ground := Ground.phase }, { on := 2, ground := Ground.phase }, { on := 3, ground := Ground.phase }, { on := 4, ground := Ground.phase }, { on := 5, ground := Ground.phase }, { on := 6, ground := Ground.phase }, { on := 7, ground := Ground.phase }, { on := 8, ground := Ground.phase }, { on := 9, ground := Ground.phase }, { on := 10, ground := Ground.phase }, { on := 11, ground := Ground.textOnly Departure.lateStores }, { on := 12, ground := Ground.phase }, { on := 13, ground := Ground.phase }, { on := 14, ground := Ground.phase }, { on := 15, ground := Ground.phase }], guard := none }) (by kernel_rfl) rfl hrun (hK _ _ ⟨{ v with b16 := true, y16 := .int .i64 R.did }, rfl, hfr, ⟨HH.out.e0, HH.out.e2, HH.out.e4, HH.out.e7, HH.out.e8, HH.out.e9, HH.out.e10, HH.out.e11, HH.out.e12, HH.out.e13, (fun _ => rfl), HH.out.e17, HH.out.e6, ⟨F.out.hB, F.out.p1, F.out.p3, F.out.p5, F.out.p6, F.out.p12, F.out.p13⟩⟩⟩)
    · have f17 : v.b17 = false := hb
      have t11 : v.b11 = true := ready_pre (o := { dst := some 11, op := Op.assign (Operand.tmp 52), type := 3, pos := pz, after := #[{ on := 11, ground := Ground.data }, { on := 16, ground := Ground.chain }, { on := 0, ground := Ground.phase }, { on := 1, ground := Ground.phase }, { on := 2, ground := Ground.phase }, { on := 3, ground := Ground.phase }, { on := 4, ground := Ground.phase }, { on := 5, ground := Ground.phase }, { on := 6, ground := Ground.phase }, { on := 7, ground := Ground.phase }, { on := 8, ground := Ground.phase }, { on := 9, ground := Ground.phase }, { on := 10, ground := Ground.phase }, { on := 11, ground := Ground.phase }, { on := 12, ground := Ground.phase }, { on := 13, ground := Ground.phase }, { on := 14, ground := Ground.phase }, { on := 15, ground := Ground.phase }, { on := 16, ground := Ground.phase }], guard := none }) hi (by kernel_rfl) ⟨11, .data⟩ (by simp) rfl
      have u11 := HH.out.e11 t11
      have v0 := ev11_11 v hsz
      rw [u11] at v0
      have hrun := run11_17 (pz := pz) _ W _ v0
      have hfr : (putL A0 (sl11 v)).put (some 11) (.int .i64 R.num) = putL A0 (sl11 { v with b17 := true, y17 := .int .i64 R.num }) := put11_17 v { v with b17 := true, y17 := .int .i64 R.num } (.int .i64 R.num) (by rfl)
      exact wpOp_value (o := { dst := some 11, op := Op.assign (Operand.tmp 52), type := 3, pos := pz, after := #[{ on := 11, ground := Ground.data }, { on := 16, ground := Ground.chain }, { on := 0, ground := Ground.phase }, { on := 1, ground := Ground.phase }, { on := 2, ground := Ground.phase }, { on := 3, ground := Ground.phase }, { on := 4, ground := Ground.phase }, { on := 5, ground := Ground.phase }, { on := 6, ground := Ground.phase }, { on := 7, ground := Ground.phase }, { on := 8, ground := Ground.phase }, { on := 9, ground := Ground.phase }, { on := 10, ground := Ground.phase }, { on := 11, ground := Ground.phase }, { on := 12, ground := Ground.phase }, { on := 13, ground := Ground.phase }, { on := 14, ground := Ground.phase }, { on := 15, ground := Ground.phase }, { on := 16, ground := Ground.phase }], guard := none }) (by kernel_rfl) rfl hrun (hK _ _ ⟨{ v with b17 := true, y17 := .int .i64 R.num }, rfl, hfr, ⟨HH.out.e0, HH.out.e2, HH.out.e4, HH.out.e7, HH.out.e8, HH.out.e9, HH.out.e10, HH.out.e11, HH.out.e12, HH.out.e13, HH.out.e16, (fun _ => rfl), HH.out.e6, ⟨F.out.hB, F.out.p1, F.out.p3, F.out.p5, F.out.p6, F.out.p12, F.out.p13⟩⟩⟩)
  · intro listed a W hI hr
    obtain ⟨v, rfl, rfl, H⟩ := hI
    have t0 : v.b0 = true := ready_last hr 0 ({ dst := some 42, op := Op.load 52 (Operand.tmp 3), type := 52, pos := pz, after := #[], guard := none }) (by kernel_rfl) (by intro e he hbn; first | (simp at he; done) | (simp at he; rcases he with h <;> first | exact absurd hbn (by decide) ))
    have t2 : v.b2 = true := ready_last hr 2 ({ dst := some 44, op := Op.load 53 (Operand.tmp 4), type := 53, pos := pz, after := #[], guard := none }) (by kernel_rfl) (by intro e he hbn; first | (simp at he; done) | (simp at he; rcases he with h <;> first | exact absurd hbn (by decide) | exact t0 ))
    have t4 : v.b4 = true := ready_last hr 4 ({ dst := some 46, op := Op.move (Operand.tmp 2), type := 54, pos := pz, after := #[], guard := none }) (by kernel_rfl) (by intro e he hbn; first | (simp at he; done) | (simp at he; rcases he with h <;> first | exact absurd hbn (by decide) | exact t0 | exact t2 ))
    have t1 : v.b1 = true := ready_last hr 1 ({ dst := some 43, op := Op.call { callee := Callee.value (Operand.func 21), args := #[Operand.tmp 42], argTypes := #[52] }, type := 58, pos := pz, after := #[{ on := 0, ground := Ground.data }], guard := none }) (by kernel_rfl) (by intro e he hbn; first | (simp at he; done) | (simp at he; rcases he with rfl <;> first | exact absurd hbn (by decide) | exact t0 | exact t2 | exact t4 ))
    have t3 : v.b3 = true := ready_last hr 3 ({ dst := some 45, op := Op.call { callee := Callee.value (Operand.func 22), args := #[Operand.tmp 44], argTypes := #[53] }, type := 38, pos := pz, after := #[{ on := 2, ground := Ground.data }, { on := 1, ground := Ground.chain }], guard := none }) (by kernel_rfl) (by intro e he hbn; first | (simp at he; done) | (simp at he; rcases he with rfl | rfl <;> first | exact absurd hbn (by decide) | exact t0 | exact t2 | exact t4 | exact t1 ))
    have t5 : v.b5 = true := ready_last hr 5 ({ dst := some 47, op := Op.call { callee := Callee.value (Operand.func 23), args := #[Operand.tmp 46], argTypes := #[54] }, type := 63, pos := pz, after := #[{ on := 4, ground := Ground.data }, { on := 3, ground := Ground.chain }], guard := none }) (by kernel_rfl) (by intro e he hbn; first | (simp at he; done) | (simp at he; rcases he with rfl | rfl <;> first | exact absurd hbn (by decide) | exact t0 | exact t2 | exact t4 | exact t1 | exact t3 ))
    have t6 : v.b6 = true := ready_last hr 6 ({ dst := some 48, op := Op.call { callee := Callee.value (Operand.func 20), args := #[Operand.tmp 43, Operand.tmp 45, Operand.tmp 47], argTypes := #[58, 38, 63] }, type := 59, pos := pz, after := #[{ on := 1, ground := Ground.data }, { on := 3, ground := Ground.data }, { on := 5, ground := Ground.data }, { on := 5, ground := Ground.chain }], guard := none }) (by kernel_rfl) (by intro e he hbn; first | (simp at he; done) | (simp at he; rcases he with rfl | rfl | rfl | rfl <;> first | exact absurd hbn (by decide) | exact t0 | exact t2 | exact t4 | exact t1 | exact t3 | exact t5 ))
    have t7 : v.b7 = true := ready_last hr 7 ({ dst := some 41, op := Op.move (Operand.tmp 48), type := 59, pos := pz, after := #[{ on := 6, ground := Ground.data }], guard := none }) (by kernel_rfl) (by intro e he hbn; first | (simp at he; done) | (simp at he; rcases he with rfl <;> first | exact absurd hbn (by decide) | exact t0 | exact t2 | exact t4 | exact t1 | exact t3 | exact t5 | exact t6 ))
    have t8 : v.b8 = true := ready_last hr 8 ({ dst := some 49, op := Op.extract (Operand.tmp 41) 0, type := 58, pos := pz, after := #[{ on := 7, ground := Ground.data }], guard := none }) (by kernel_rfl) (by intro e he hbn; first | (simp at he; done) | (simp at he; rcases he with rfl <;> first | exact absurd hbn (by decide) | exact t0 | exact t2 | exact t4 | exact t1 | exact t3 | exact t5 | exact t6 | exact t7 ))
    have t9 : v.b9 = true := ready_last hr 9 ({ dst := some 50, op := Op.extract (Operand.tmp 41) 1, type := 38, pos := pz, after := #[{ on := 7, ground := Ground.data }, { on := 14, ground := Ground.gcOnly Departure.lateStores }], guard := none }) (by kernel_rfl) (by intro e he hbn; first | (simp at he; done) | (simp at he; rcases he with rfl | rfl <;> first | exact absurd hbn (by decide) | exact t0 | exact t2 | exact t4 | exact t1 | exact t3 | exact t5 | exact t6 | exact t7 | exact t8 ))
    have t10 : v.b10 = true := ready_last hr 10 ({ dst := some 51, op := Op.extract (Operand.tmp 41) 2, type := 3, pos := pz, after := #[{ on := 7, ground := Ground.data }, { on := 15, ground := Ground.gcOnly Departure.lateStores }], guard := none }) (by kernel_rfl) (by intro e he hbn; first | (simp at he; done) | (simp at he; rcases he with rfl | rfl <;> first | exact absurd hbn (by decide) | exact t0 | exact t2 | exact t4 | exact t1 | exact t3 | exact t5 | exact t6 | exact t7 | exact t8 | exact t9 ))
    have t11 : v.b11 = true := ready_last hr 11 ({ dst := some 52, op := Op.extract (Operand.tmp 41) 3, type := 3, pos := pz, after := #[{ on := 7, ground := Ground.data }, { on := 16, ground := Ground.gcOnly Departure.lateStores }], guard := none }) (by kernel_rfl) (by intro e he hbn; first | (simp at he; done) | (simp at he; rcases he with rfl | rfl <;> first | exact absurd hbn (by decide) | exact t0 | exact t2 | exact t4 | exact t1 | exact t3 | exact t5 | exact t6 | exact t7 | exact t8 | exact t9 | exact t10 ))
    have t12 : v.b12 = true := ready_last hr 12 ({ dst := some 8, op := Op.alloc 58, type := 0, pos := pz, after := #[], guard := none }) (by kernel_rfl) (by intro e he hbn; first | (simp at he; done) | (simp at he; rcases he with h <;> first | exact absurd hbn (by decide) | exact t0 | exact t2 | exact t4 | exact t1 | exact t3 | exact t5 | exact t6 | exact t7 | exact t8 | exact t9 | exact t10 | exact t11 ))
    have t13 : v.b13 = true := ready_last hr 13 ({ dst := some 9, op := Op.alloc 38, type := 0, pos := pz, after := #[], guard := none }) (by kernel_rfl) (by intro e he hbn; first | (simp at he; done) | (simp at he; rcases he with h <;> first | exact absurd hbn (by decide) | exact t0 | exact t2 | exact t4 | exact t1 | exact t3 | exact t5 | exact t6 | exact t7 | exact t8 | exact t9 | exact t10 | exact t11 | exact t12 ))
    have t14 : v.b14 = true := ready_last hr 14 ({ dst := none, op := Op.store 58 (Operand.tmp 8) (Operand.tmp 49), type := 0, pos := pz, after := #[{ on := 12, ground := Ground.data }, { on := 8, ground := Ground.data }, { on := 6, ground := Ground.chain }, { on := 0, ground := Ground.phase }, { on := 1, ground := Ground.phase }, { on := 2, ground := Ground.phase }, { on := 3, ground := Ground.phase }, { on := 4, ground := Ground.phase }, { on := 5, ground := Ground.phase }, { on := 6, ground := Ground.phase }, { on := 7, ground := Ground.phase }, { on := 8, ground := Ground.phase }, { on := 9, ground := Ground.textOnly Departure.lateStores }, { on := 10, ground := Ground.textOnly Departure.lateStores }, { on := 11, ground := Ground.textOnly Departure.lateStores }, { on := 12, ground := Ground.phase }, { on := 13, ground := Ground.phase }], guard := none }) (by kernel_rfl) (by intro e he hbn; first | (simp at he; done) | (simp at he; rcases he with rfl | rfl | rfl | rfl | rfl | rfl | rfl | rfl | rfl | rfl | rfl | rfl | rfl | rfl | rfl | rfl | rfl <;> first | exact absurd hbn (by decide) | exact t0 | exact t2 | exact t4 | exact t1 | exact t3 | exact t5 | exact t6 | exact t7 | exact t8 | exact t9 | exact t10 | exact t11 | exact t12 | exact t13 ))
    have t15 : v.b15 = true := ready_last hr 15 ({ dst := none, op := Op.store 38 (Operand.tmp 9) (Operand.tmp 50), type := 0, pos := pz, after := #[{ on := 13, ground := Ground.data }, { on := 9, ground := Ground.data }, { on := 14, ground := Ground.chain }, { on := 0, ground := Ground.phase }, { on := 1, ground := Ground.phase }, { on := 2, ground := Ground.phase }, { on := 3, ground := Ground.phase }, { on := 4, ground := Ground.phase }, { on := 5, ground := Ground.phase }, { on := 6, ground := Ground.phase }, { on := 7, ground := Ground.phase }, { on := 8, ground := Ground.phase }, { on := 9, ground := Ground.phase }, { on := 10, ground := Ground.textOnly Departure.lateStores }, { on := 11, ground := Ground.textOnly Departure.lateStores }, { on := 12, ground := Ground.phase }, { on := 13, ground := Ground.phase }, { on := 14, ground := Ground.phase }], guard := none }) (by kernel_rfl) (by intro e he hbn; first | (simp at he; done) | (simp at he; rcases he with rfl | rfl | rfl | rfl | rfl | rfl | rfl | rfl | rfl | rfl | rfl | rfl | rfl | rfl | rfl | rfl | rfl | rfl <;> first | exact absurd hbn (by decide) | exact t0 | exact t2 | exact t4 | exact t1 | exact t3 | exact t5 | exact t6 | exact t7 | exact t8 | exact t9 | exact t10 | exact t11 | exact t12 | exact t13 | exact t14 ))
    have t16 : v.b16 = true := ready_last hr 16 ({ dst := some 10, op := Op.assign (Operand.tmp 51), type := 3, pos := pz, after := #[{ on := 10, ground := Ground.data }, { on := 15, ground := Ground.chain }, { on := 0, ground := Ground.phase }, { on := 1, ground := Ground.phase }, { on := 2, ground := Ground.phase }, { on := 3, ground := Ground.phase }, { on := 4, ground := Ground.phase }, { on := 5, ground := Ground.phase }, { on := 6, ground := Ground.phase }, { on := 7, ground := Ground.phase }, { on := 8, ground := Ground.phase }, { on := 9, ground := Ground.phase }, { on := 10, ground := Ground.phase }, { on := 11, ground := Ground.textOnly Departure.lateStores }, { on := 12, ground := Ground.phase }, { on := 13, ground := Ground.phase }, { on := 14, ground := Ground.phase }, { on := 15, ground := Ground.phase }], guard := none }) (by kernel_rfl) (by intro e he hbn; first | (simp at he; done) | (simp at he; rcases he with rfl | rfl | rfl | rfl | rfl | rfl | rfl | rfl | rfl | rfl | rfl | rfl | rfl | rfl | rfl | rfl | rfl | rfl <;> first | exact absurd hbn (by decide) | exact t0 | exact t2 | exact t4 | exact t1 | exact t3 | exact t5 | exact t6 | exact t7 | exact t8 | exact t9 | exact t10 | exact t11 | exact t12 | exact t13 | exact t14 | exact t15 ))
    have t17 : v.b17 = true := ready_last hr 17 ({ dst := some 11, op := Op.assign (Operand.tmp 52), type := 3, pos := pz, after := #[{ on := 11, ground := Ground.data }, { on := 16, ground := Ground.chain }, { on := 0, ground := Ground.phase }, { on := 1, ground := Ground.phase }, { on := 2, ground := Ground.phase }, { on := 3, ground := Ground.phase }, { on := 4, ground := Ground.phase }, { on := 5, ground := Ground.phase }, { on := 6, ground := Ground.phase }, { on := 7, ground := Ground.phase }, { on := 8, ground := Ground.phase }, { on := 9, ground := Ground.phase }, { on := 10, ground := Ground.phase }, { on := 11, ground := Ground.phase }, { on := 12, ground := Ground.phase }, { on := 13, ground := Ground.phase }, { on := 14, ground := Ground.phase }, { on := 15, ground := Ground.phase }, { on := 16, ground := Ground.phase }], guard := none }) (by kernel_rfl) (by intro e he hbn; first | (simp at he; done) | (simp at he; rcases he with rfl | rfl | rfl | rfl | rfl | rfl | rfl | rfl | rfl | rfl | rfl | rfl | rfl | rfl | rfl | rfl | rfl | rfl | rfl <;> first | exact absurd hbn (by decide) | exact t0 | exact t2 | exact t4 | exact t1 | exact t3 | exact t5 | exact t6 | exact t7 | exact t8 | exact t9 | exact t10 | exact t11 | exact t12 | exact t13 | exact t14 | exact t15 | exact t16 ))
    obtain ⟨_, ho, hm⟩ := H.F.p6 t6
    obtain ⟨u12, l0, c0, c1, k0, f0⟩ := H.F.p12 t12
    obtain ⟨u13, l1, d0, d1, d2, k1, f1⟩ := H.F.p13 t13
    obtain ⟨rfl, rfl⟩ := f0 t14
    obtain ⟨rfl, rfl, rfl⟩ := f1 t15
    have key := HEND.out v.y0 v.y1 v.y2 v.y3 v.y4 v.y5 v.y6 v.y7 v.y8 v.y9 v.y10 v.y11 v.ca v.nr v.cc v.A1 v.M1 v.D1 v.A2 v.M2 v.D2 v.A3 v.M3 v.D3 v.G0 v.G1 W H.F.hB ho hm l0 l1 k0 k1
    rw [← u12, ← u13, ← H.e16 t16, ← H.e17 t17] at key
    exact key
end Go.Proofs.YtngdgogjlpjjpadGreat

namespace Go.Proofs.YtngdgogjlpjjpadGreat
open Go.RowKit
set_option linter.unusedVariables false
set_option linter.unusedSimpArgs false
set_option maxRecDepth 100000

def sl42 (v : SV) : List (Nat × Value) := [(156, v.y0), (157, v.y1), (158, v.y2), (159, v.y3), (160, v.y4), (161, v.y5), (162, v.y6), (155, v.y7), (163, v.y8), (164, v.y9), (165, v.y10), (166, v.y11), (22, v.y12), (23, v.y13), (24, v.y16), (25, v.y17)]
theorem ev42_0 {A0 : Act} (v : SV) (h : A0.tmps.size = 187) : (putL A0 (sl42 v)).tmps[156]?.getD undef = v.y0 := ev_of (putL_eval (l := []) (r := [(157, v.y1), (158, v.y2), (159, v.y3), (160, v.y4), (161, v.y5), (162, v.y6), (155, v.y7), (163, v.y8), (164, v.y9), (165, v.y10), (166, v.y11), (22, v.y12), (23, v.y13), (24, v.y16), (25, v.y17)]) (by rw [h]; decide) (by simp))
theorem put42_0 {A0 : Act} (v v' : SV) (u : Value) (h : sl42 v' = sl42 { v with y0 := u }) : (putL A0 (sl42 v)).put (some 156) u = putL A0 (sl42 v') := by
  rw [h]
  exact putL_put (l := []) (r := [(157, v.y1), (158, v.y2), (159, v.y3), (160, v.y4), (161, v.y5), (162, v.y6), (155, v.y7), (163, v.y8), (164, v.y9), (165, v.y10), (166, v.y11), (22, v.y12), (23, v.y13), (24, v.y16), (25, v.y17)]) (by simp)
theorem ev42_1 {A0 : Act} (v : SV) (h : A0.tmps.size = 187) : (putL A0 (sl42 v)).tmps[157]?.getD undef = v.y1 := ev_of (putL_eval (l := [(156, v.y0)]) (r := [(158, v.y2), (159, v.y3), (160, v.y4), (161, v.y5), (162, v.y6), (155, v.y7), (163, v.y8), (164, v.y9), (165, v.y10), (166, v.y11), (22, v.y12), (23, v.y13), (24, v.y16), (25, v.y17)]) (by rw [h]; decide) (by simp))
theorem put42_1 {A0 : Act} (v v' : SV) (u : Value) (h : sl42 v' = sl42 { v with y1 := u }) : (putL A0 (sl42 v)).put (some 157) u = putL A0 (sl42 v') := by
  rw [h]
  exact putL_put (l := [(156, v.y0)]) (r := [(158, v.y2), (159, v.y3), (160, v.y4), (161, v.y5), (162, v.y6), (155, v.y7), (163, v.y8), (164, v.y9), (165, v.y10), (166, v.y11), (22, v.y12), (23, v.y13), (24, v.y16), (25, v.y17)]) (by simp)
theorem ev42_2 {A0 : Act} (v : SV) (h : A0.tmps.size = 187) : (putL A0 (sl42 v)).tmps[158]?.getD undef = v.y2 := ev_of (putL_eval (l := [(156, v.y0), (157, v.y1)]) (r := [(159, v.y3), (160, v.y4), (161, v.y5), (162, v.y6), (155, v.y7), (163, v.y8), (164, v.y9), (165, v.y10), (166, v.y11), (22, v.y12), (23, v.y13), (24, v.y16), (25, v.y17)]) (by rw [h]; decide) (by simp))
theorem put42_2 {A0 : Act} (v v' : SV) (u : Value) (h : sl42 v' = sl42 { v with y2 := u }) : (putL A0 (sl42 v)).put (some 158) u = putL A0 (sl42 v') := by
  rw [h]
  exact putL_put (l := [(156, v.y0), (157, v.y1)]) (r := [(159, v.y3), (160, v.y4), (161, v.y5), (162, v.y6), (155, v.y7), (163, v.y8), (164, v.y9), (165, v.y10), (166, v.y11), (22, v.y12), (23, v.y13), (24, v.y16), (25, v.y17)]) (by simp)
theorem ev42_3 {A0 : Act} (v : SV) (h : A0.tmps.size = 187) : (putL A0 (sl42 v)).tmps[159]?.getD undef = v.y3 := ev_of (putL_eval (l := [(156, v.y0), (157, v.y1), (158, v.y2)]) (r := [(160, v.y4), (161, v.y5), (162, v.y6), (155, v.y7), (163, v.y8), (164, v.y9), (165, v.y10), (166, v.y11), (22, v.y12), (23, v.y13), (24, v.y16), (25, v.y17)]) (by rw [h]; decide) (by simp))
theorem put42_3 {A0 : Act} (v v' : SV) (u : Value) (h : sl42 v' = sl42 { v with y3 := u }) : (putL A0 (sl42 v)).put (some 159) u = putL A0 (sl42 v') := by
  rw [h]
  exact putL_put (l := [(156, v.y0), (157, v.y1), (158, v.y2)]) (r := [(160, v.y4), (161, v.y5), (162, v.y6), (155, v.y7), (163, v.y8), (164, v.y9), (165, v.y10), (166, v.y11), (22, v.y12), (23, v.y13), (24, v.y16), (25, v.y17)]) (by simp)
theorem ev42_4 {A0 : Act} (v : SV) (h : A0.tmps.size = 187) : (putL A0 (sl42 v)).tmps[160]?.getD undef = v.y4 := ev_of (putL_eval (l := [(156, v.y0), (157, v.y1), (158, v.y2), (159, v.y3)]) (r := [(161, v.y5), (162, v.y6), (155, v.y7), (163, v.y8), (164, v.y9), (165, v.y10), (166, v.y11), (22, v.y12), (23, v.y13), (24, v.y16), (25, v.y17)]) (by rw [h]; decide) (by simp))
theorem put42_4 {A0 : Act} (v v' : SV) (u : Value) (h : sl42 v' = sl42 { v with y4 := u }) : (putL A0 (sl42 v)).put (some 160) u = putL A0 (sl42 v') := by
  rw [h]
  exact putL_put (l := [(156, v.y0), (157, v.y1), (158, v.y2), (159, v.y3)]) (r := [(161, v.y5), (162, v.y6), (155, v.y7), (163, v.y8), (164, v.y9), (165, v.y10), (166, v.y11), (22, v.y12), (23, v.y13), (24, v.y16), (25, v.y17)]) (by simp)
theorem ev42_5 {A0 : Act} (v : SV) (h : A0.tmps.size = 187) : (putL A0 (sl42 v)).tmps[161]?.getD undef = v.y5 := ev_of (putL_eval (l := [(156, v.y0), (157, v.y1), (158, v.y2), (159, v.y3), (160, v.y4)]) (r := [(162, v.y6), (155, v.y7), (163, v.y8), (164, v.y9), (165, v.y10), (166, v.y11), (22, v.y12), (23, v.y13), (24, v.y16), (25, v.y17)]) (by rw [h]; decide) (by simp))
theorem put42_5 {A0 : Act} (v v' : SV) (u : Value) (h : sl42 v' = sl42 { v with y5 := u }) : (putL A0 (sl42 v)).put (some 161) u = putL A0 (sl42 v') := by
  rw [h]
  exact putL_put (l := [(156, v.y0), (157, v.y1), (158, v.y2), (159, v.y3), (160, v.y4)]) (r := [(162, v.y6), (155, v.y7), (163, v.y8), (164, v.y9), (165, v.y10), (166, v.y11), (22, v.y12), (23, v.y13), (24, v.y16), (25, v.y17)]) (by simp)
theorem ev42_6 {A0 : Act} (v : SV) (h : A0.tmps.size = 187) : (putL A0 (sl42 v)).tmps[162]?.getD undef = v.y6 := ev_of (putL_eval (l := [(156, v.y0), (157, v.y1), (158, v.y2), (159, v.y3), (160, v.y4), (161, v.y5)]) (r := [(155, v.y7), (163, v.y8), (164, v.y9), (165, v.y10), (166, v.y11), (22, v.y12), (23, v.y13), (24, v.y16), (25, v.y17)]) (by rw [h]; decide) (by simp))
theorem put42_6 {A0 : Act} (v v' : SV) (u : Value) (h : sl42 v' = sl42 { v with y6 := u }) : (putL A0 (sl42 v)).put (some 162) u = putL A0 (sl42 v') := by
  rw [h]
  exact putL_put (l := [(156, v.y0), (157, v.y1), (158, v.y2), (159, v.y3), (160, v.y4), (161, v.y5)]) (r := [(155, v.y7), (163, v.y8), (164, v.y9), (165, v.y10), (166, v.y11), (22, v.y12), (23, v.y13), (24, v.y16), (25, v.y17)]) (by simp)
theorem ev42_7 {A0 : Act} (v : SV) (h : A0.tmps.size = 187) : (putL A0 (sl42 v)).tmps[155]?.getD undef = v.y7 := ev_of (putL_eval (l := [(156, v.y0), (157, v.y1), (158, v.y2), (159, v.y3), (160, v.y4), (161, v.y5), (162, v.y6)]) (r := [(163, v.y8), (164, v.y9), (165, v.y10), (166, v.y11), (22, v.y12), (23, v.y13), (24, v.y16), (25, v.y17)]) (by rw [h]; decide) (by simp))
theorem put42_7 {A0 : Act} (v v' : SV) (u : Value) (h : sl42 v' = sl42 { v with y7 := u }) : (putL A0 (sl42 v)).put (some 155) u = putL A0 (sl42 v') := by
  rw [h]
  exact putL_put (l := [(156, v.y0), (157, v.y1), (158, v.y2), (159, v.y3), (160, v.y4), (161, v.y5), (162, v.y6)]) (r := [(163, v.y8), (164, v.y9), (165, v.y10), (166, v.y11), (22, v.y12), (23, v.y13), (24, v.y16), (25, v.y17)]) (by simp)
theorem ev42_8 {A0 : Act} (v : SV) (h : A0.tmps.size = 187) : (putL A0 (sl42 v)).tmps[163]?.getD undef = v.y8 := ev_of (putL_eval (l := [(156, v.y0), (157, v.y1), (158, v.y2), (159, v.y3), (160, v.y4), (161, v.y5), (162, v.y6), (155, v.y7)]) (r := [(164, v.y9), (165, v.y10), (166, v.y11), (22, v.y12), (23, v.y13), (24, v.y16), (25, v.y17)]) (by rw [h]; decide) (by simp))
theorem put42_8 {A0 : Act} (v v' : SV) (u : Value) (h : sl42 v' = sl42 { v with y8 := u }) : (putL A0 (sl42 v)).put (some 163) u = putL A0 (sl42 v') := by
  rw [h]
  exact putL_put (l := [(156, v.y0), (157, v.y1), (158, v.y2), (159, v.y3), (160, v.y4), (161, v.y5), (162, v.y6), (155, v.y7)]) (r := [(164, v.y9), (165, v.y10), (166, v.y11), (22, v.y12), (23, v.y13), (24, v.y16), (25, v.y17)]) (by simp)
theorem ev42_9 {A0 : Act} (v : SV) (h : A0.tmps.size = 187) : (putL A0 (sl42 v)).tmps[164]?.getD undef = v.y9 := ev_of (putL_eval (l := [(156, v.y0), (157, v.y1), (158, v.y2), (159, v.y3), (160, v.y4), (161, v.y5), (162, v.y6), (155, v.y7), (163, v.y8)]) (r := [(165, v.y10), (166, v.y11), (22, v.y12), (23, v.y13), (24, v.y16), (25, v.y17)]) (by rw [h]; decide) (by simp))
theorem put42_9 {A0 : Act} (v v' : SV) (u : Value) (h : sl42 v' = sl42 { v with y9 := u }) : (putL A0 (sl42 v)).put (some 164) u = putL A0 (sl42 v') := by
  rw [h]
  exact putL_put (l := [(156, v.y0), (157, v.y1), (158, v.y2), (159, v.y3), (160, v.y4), (161, v.y5), (162, v.y6), (155, v.y7), (163, v.y8)]) (r := [(165, v.y10), (166, v.y11), (22, v.y12), (23, v.y13), (24, v.y16), (25, v.y17)]) (by simp)
theorem ev42_10 {A0 : Act} (v : SV) (h : A0.tmps.size = 187) : (putL A0 (sl42 v)).tmps[165]?.getD undef = v.y10 := ev_of (putL_eval (l := [(156, v.y0), (157, v.y1), (158, v.y2), (159, v.y3), (160, v.y4), (161, v.y5), (162, v.y6), (155, v.y7), (163, v.y8), (164, v.y9)]) (r := [(166, v.y11), (22, v.y12), (23, v.y13), (24, v.y16), (25, v.y17)]) (by rw [h]; decide) (by simp))
theorem put42_10 {A0 : Act} (v v' : SV) (u : Value) (h : sl42 v' = sl42 { v with y10 := u }) : (putL A0 (sl42 v)).put (some 165) u = putL A0 (sl42 v') := by
  rw [h]
  exact putL_put (l := [(156, v.y0), (157, v.y1), (158, v.y2), (159, v.y3), (160, v.y4), (161, v.y5), (162, v.y6), (155, v.y7), (163, v.y8), (164, v.y9)]) (r := [(166, v.y11), (22, v.y12), (23, v.y13), (24, v.y16), (25, v.y17)]) (by simp)
theorem ev42_11 {A0 : Act} (v : SV) (h : A0.tmps.size = 187) : (putL A0 (sl42 v)).tmps[166]?.getD undef = v.y11 := ev_of (putL_eval (l := [(156, v.y0), (157, v.y1), (158, v.y2), (159, v.y3), (160, v.y4), (161, v.y5), (162, v.y6), (155, v.y7), (163, v.y8), (164, v.y9), (165, v.y10)]) (r := [(22, v.y12), (23, v.y13), (24, v.y16), (25, v.y17)]) (by rw [h]; decide) (by simp))
theorem put42_11 {A0 : Act} (v v' : SV) (u : Value) (h : sl42 v' = sl42 { v with y11 := u }) : (putL A0 (sl42 v)).put (some 166) u = putL A0 (sl42 v') := by
  rw [h]
  exact putL_put (l := [(156, v.y0), (157, v.y1), (158, v.y2), (159, v.y3), (160, v.y4), (161, v.y5), (162, v.y6), (155, v.y7), (163, v.y8), (164, v.y9), (165, v.y10)]) (r := [(22, v.y12), (23, v.y13), (24, v.y16), (25, v.y17)]) (by simp)
theorem ev42_12 {A0 : Act} (v : SV) (h : A0.tmps.size = 187) : (putL A0 (sl42 v)).tmps[22]?.getD undef = v.y12 := ev_of (putL_eval (l := [(156, v.y0), (157, v.y1), (158, v.y2), (159, v.y3), (160, v.y4), (161, v.y5), (162, v.y6), (155, v.y7), (163, v.y8), (164, v.y9), (165, v.y10), (166, v.y11)]) (r := [(23, v.y13), (24, v.y16), (25, v.y17)]) (by rw [h]; decide) (by simp))
theorem put42_12 {A0 : Act} (v v' : SV) (u : Value) (h : sl42 v' = sl42 { v with y12 := u }) : (putL A0 (sl42 v)).put (some 22) u = putL A0 (sl42 v') := by
  rw [h]
  exact putL_put (l := [(156, v.y0), (157, v.y1), (158, v.y2), (159, v.y3), (160, v.y4), (161, v.y5), (162, v.y6), (155, v.y7), (163, v.y8), (164, v.y9), (165, v.y10), (166, v.y11)]) (r := [(23, v.y13), (24, v.y16), (25, v.y17)]) (by simp)
theorem ev42_13 {A0 : Act} (v : SV) (h : A0.tmps.size = 187) : (putL A0 (sl42 v)).tmps[23]?.getD undef = v.y13 := ev_of (putL_eval (l := [(156, v.y0), (157, v.y1), (158, v.y2), (159, v.y3), (160, v.y4), (161, v.y5), (162, v.y6), (155, v.y7), (163, v.y8), (164, v.y9), (165, v.y10), (166, v.y11), (22, v.y12)]) (r := [(24, v.y16), (25, v.y17)]) (by rw [h]; decide) (by simp))
theorem put42_13 {A0 : Act} (v v' : SV) (u : Value) (h : sl42 v' = sl42 { v with y13 := u }) : (putL A0 (sl42 v)).put (some 23) u = putL A0 (sl42 v') := by
  rw [h]
  exact putL_put (l := [(156, v.y0), (157, v.y1), (158, v.y2), (159, v.y3), (160, v.y4), (161, v.y5), (162, v.y6), (155, v.y7), (163, v.y8), (164, v.y9), (165, v.y10), (166, v.y11), (22, v.y12)]) (r := [(24, v.y16), (25, v.y17)]) (by simp)
theorem ev42_16 {A0 : Act} (v : SV) (h : A0.tmps.size = 187) : (putL A0 (sl42 v)).tmps[24]?.getD undef = v.y16 := ev_of (putL_eval (l := [(156, v.y0), (157, v.y1), (158, v.y2), (159, v.y3), (160, v.y4), (161, v.y5), (162, v.y6), (155, v.y7), (163, v.y8), (164, v.y9), (165, v.y10), (166, v.y11), (22, v.y12), (23, v.y13)]) (r := [(25, v.y17)]) (by rw [h]; decide) (by simp))
theorem put42_16 {A0 : Act} (v v' : SV) (u : Value) (h : sl42 v' = sl42 { v with y16 := u }) : (putL A0 (sl42 v)).put (some 24) u = putL A0 (sl42 v') := by
  rw [h]
  exact putL_put (l := [(156, v.y0), (157, v.y1), (158, v.y2), (159, v.y3), (160, v.y4), (161, v.y5), (162, v.y6), (155, v.y7), (163, v.y8), (164, v.y9), (165, v.y10), (166, v.y11), (22, v.y12), (23, v.y13)]) (r := [(25, v.y17)]) (by simp)
theorem ev42_17 {A0 : Act} (v : SV) (h : A0.tmps.size = 187) : (putL A0 (sl42 v)).tmps[25]?.getD undef = v.y17 := ev_of (putL_eval (l := [(156, v.y0), (157, v.y1), (158, v.y2), (159, v.y3), (160, v.y4), (161, v.y5), (162, v.y6), (155, v.y7), (163, v.y8), (164, v.y9), (165, v.y10), (166, v.y11), (22, v.y12), (23, v.y13), (24, v.y16)]) (r := []) (by rw [h]; decide) (by simp))
theorem put42_17 {A0 : Act} (v v' : SV) (u : Value) (h : sl42 v' = sl42 { v with y17 := u }) : (putL A0 (sl42 v)).put (some 25) u = putL A0 (sl42 v') := by
  rw [h]
  exact putL_put (l := [(156, v.y0), (157, v.y1), (158, v.y2), (159, v.y3), (160, v.y4), (161, v.y5), (162, v.y6), (155, v.y7), (163, v.y8), (164, v.y9), (165, v.y10), (166, v.y11), (22, v.y12), (23, v.y13), (24, v.y16)]) (r := []) (by simp)
theorem same42 {A0 : Act} (v v' : SV) (h : sl42 v' = sl42 v) : (putL A0 (sl42 v)).put none undef = putL A0 (sl42 v') := by
  rw [h]
  rfl
theorem ev42_a2 {A0 : Act} {u : Value} (v : SV) (h : A0.eval (.tmp 2) = u) : (putL A0 (sl42 v)).tmps[2]?.getD undef = u := ev_of ((putL_eval_other (l := [(156, v.y0), (157, v.y1), (158, v.y2), (159, v.y3), (160, v.y4), (161, v.y5), (162, v.y6), (155, v.y7), (163, v.y8), (164, v.y9), (165, v.y10), (166, v.y11), (22, v.y12), (23, v.y13), (24, v.y16), (25, v.y17)]) (by simp)).trans h)
theorem ev42_a3 {A0 : Act} {u : Value} (v : SV) (h : A0.eval (.tmp 3) = u) : (putL A0 (sl42 v)).tmps[3]?.getD undef = u := ev_of ((putL_eval_other (l := [(156, v.y0), (157, v.y1), (158, v.y2), (159, v.y3), (160, v.y4), (161, v.y5), (162, v.y6), (155, v.y7), (163, v.y8), (164, v.y9), (165, v.y10), (166, v.y11), (22, v.y12), (23, v.y13), (24, v.y16), (25, v.y17)]) (by simp)).trans h)
theorem ev42_a4 {A0 : Act} {u : Value} (v : SV) (h : A0.eval (.tmp 4) = u) : (putL A0 (sl42 v)).tmps[4]?.getD undef = u := ev_of ((putL_eval_other (l := [(156, v.y0), (157, v.y1), (158, v.y2), (159, v.y3), (160, v.y4), (161, v.y5), (162, v.y6), (155, v.y7), (163, v.y8), (164, v.y9), (165, v.y10), (166, v.y11), (22, v.y12), (23, v.y13), (24, v.y16), (25, v.y17)]) (by simp)).trans h)
theorem run42_0 {pz : String} (a : Act) (W : World) (G : Nat) (pc : Int) (ka : Option Addr) (kn kc : Nat) (h : a.tmps[3]?.getD undef = .pointer (some ⟨G, 0, none⟩)) (k : Blk W G #[.int .i64 pc, .slice ka kn kc] 52) : (execOp a.eval { dst := some 156, op := Op.load 52 (Operand.tmp 3), type := 52, pos := pz, after := #[], guard := none }).run Tryz.prog W = .ok (.value (.agg #[.int .i64 pc, .slice ka kn kc])) W := by
  obtain ⟨q1, q2, q3⟩ := k.two'
  go_simp
theorem run42_1 {pz : String} (a : Act) (W : World) (u : Value) (h : a.tmps[156]?.getD undef = u) : (execOp a.eval { dst := some 157, op := Op.call { callee := Callee.value (Operand.func 21), args := #[Operand.tmp 156], argTypes := #[52] }, type := 58, pos := pz, after := #[{ on := 0, ground := Ground.data }], guard := none }).run Tryz.prog W = .ok (.enter 21 #[u]) W := by
  go_simp
theorem run42_2 {pz : String} (a : Act) (W : World) (G : Nat) (a1 a2 a3 : Option Addr) (n1 c1 n2 c2 n3 c3 : Nat) (h : a.tmps[4]?.getD undef = .pointer (some ⟨G, 0, none⟩)) (k : Blk W G #[.slice a1 n1 c1, .slice a2 n2 c2, .slice a3 n3 c3] 53) : (execOp a.eval { dst := some 158, op := Op.load 53 (Operand.tmp 4), type := 53, pos := pz, after := #[], guard := none }).run Tryz.prog W = .ok (.value (.agg #[.slice a1 n1 c1, .slice a2 n2 c2, .slice a3 n3 c3])) W := by
  obtain ⟨q1, q2, q3, q4⟩ := k.three
  go_simp
theorem run42_3 {pz : String} (a : Act) (W : World) (u : Value) (h : a.tmps[158]?.getD undef = u) : (execOp a.eval { dst := some 159, op := Op.call { callee := Callee.value (Operand.func 22), args := #[Operand.tmp 158], argTypes := #[53] }, type := 38, pos := pz, after := #[{ on := 2, ground := Ground.data }, { on := 1, ground := Ground.chain }], guard := none }).run Tryz.prog W = .ok (.enter 22 #[u]) W := by
  go_simp
theorem run42_4 {pz : String} (a : Act) (W : World) (u : Value) (h : a.tmps[2]?.getD undef = u) : (execOp a.eval { dst := some 160, op := Op.move (Operand.tmp 2), type := 54, pos := pz, after := #[], guard := none }).run Tryz.prog W = .ok (.value u) W := by
  go_simp
theorem run42_5 {pz : String} (a : Act) (W : World) (u : Value) (h : a.tmps[160]?.getD undef = u) : (execOp a.eval { dst := some 161, op := Op.call { callee := Callee.value (Operand.func 23), args := #[Operand.tmp 160], argTypes := #[54] }, type := 63, pos := pz, after := #[{ on := 4, ground := Ground.data }, { on := 3, ground := Ground.chain }], guard := none }).run Tryz.prog W = .ok (.enter 23 #[u]) W := by
  go_simp
theorem run42_6 {pz : String} (a : Act) (W : World) (u1 u2 u3 : Value) (h1 : a.tmps[157]?.getD undef = u1) (h2 : a.tmps[159]?.getD undef = u2) (h3 : a.tmps[161]?.getD undef = u3) : (execOp a.eval { dst := some 162, op := Op.call { callee := Callee.value (Operand.func 24), args := #[Operand.tmp 157, Operand.tmp 159, Operand.tmp 161], argTypes := #[58, 38, 63] }, type := 59, pos := pz, after := #[{ on := 1, ground := Ground.data }, { on := 3, ground := Ground.data }, { on := 5, ground := Ground.data }, { on := 5, ground := Ground.chain }], guard := none }).run Tryz.prog W = .ok (.enter 24 #[u1, u2, u3]) W := by
  go_simp
theorem run42_7 {pz : String} (a : Act) (W : World) (u : Value) (h : a.tmps[162]?.getD undef = u) : (execOp a.eval { dst := some 155, op := Op.move (Operand.tmp 162), type := 59, pos := pz, after := #[{ on := 6, ground := Ground.data }], guard := none }).run Tryz.prog W = .ok (.value u) W := by
  go_simp
theorem run42_8 {pz : String} (a : Act) (W : World) (u0 u1 u2 u3 : Value) (h : a.tmps[155]?.getD undef = .tuple #[u0, u1, u2, u3]) : (execOp a.eval { dst := some 163, op := Op.extract (Operand.tmp 155) 0, type := 58, pos := pz, after := #[{ on := 7, ground := Ground.data }], guard := none }).run Tryz.prog W = .ok (.value u0) W := by
  go_simp
theorem run42_9 {pz : String} (a : Act) (W : World) (u0 u1 u2 u3 : Value) (h : a.tmps[155]?.getD undef = .tuple #[u0, u1, u2, u3]) : (execOp a.eval { dst := some 164, op := Op.extract (Operand.tmp 155) 1, type := 38, pos := pz, after := #[{ on := 7, ground := Ground.data }, { on := 14, ground := Ground.gcOnly Departure.lateStores }], guard := none }).run Tryz.prog W = .ok (.value u1) W := by
  go_simp
theorem run42_10 {pz : String} (a : Act) (W : World) (u0 u1 u2 u3 : Value) (h : a.tmps[155]?.getD undef = .tuple #[u0, u1, u2, u3]) : (execOp a.eval { dst := some 165, op := Op.extract (Operand.tmp 155) 2, type := 3, pos := pz, after := #[{ on := 7, ground := Ground.data }, { on := 15, ground := Ground.gcOnly Departure.lateStores }], guard := none }).run Tryz.prog W = .ok (.value u2) W := by
  go_simp
theorem run42_11 {pz : String} (a : Act) (W : World) (u0 u1 u2 u3 : Value) (h : a.tmps[155]?.getD undef = .tuple #[u0, u1, u2, u3]) : (execOp a.eval { dst := some 166, op := Op.extract (Operand.tmp 155) 3, type := 3, pos := pz, after := #[{ on := 7, ground := Ground.data }, { on := 16, ground := Ground.gcOnly Departure.lateStores }], guard := none }).run Tryz.prog W = .ok (.value u3) W := by
  go_simp
theorem run42_12 {pz : String} (a : Act) (W : World)  : (execOp a.eval { dst := some 22, op := Op.alloc 58, type := 0, pos := pz, after := #[], guard := none }).run Tryz.prog W = .ok (.value (.pointer (some ⟨W.heap.size, 0, none⟩))) (W.alloc (.cells #[.int .i64 0, .slice none 0 0] 58)) := by
  go_simp
theorem run42_13 {pz : String} (a : Act) (W : World)  : (execOp a.eval { dst := some 23, op := Op.alloc 38, type := 0, pos := pz, after := #[], guard := none }).run Tryz.prog W = .ok (.value (.pointer (some ⟨W.heap.size, 0, none⟩))) (W.alloc (.cells #[.slice none 0 0, .slice none 0 0, .slice none 0 0] 38)) := by
  go_simp
theorem run42_14 {pz : String} (a : Act) (W : World) (G : Nat) (p : Int) (ca : Option Addr) (nr cc : Nat) (c0 c1 : Value) (h1 : a.tmps[22]?.getD undef = .pointer (some ⟨G, 0, none⟩)) (h2 : a.tmps[163]?.getD undef = .agg #[.int .i64 p, .slice ca nr cc]) (k : Blk W G #[c0, c1] 58) : (execOp a.eval { dst := none, op := Op.store 58 (Operand.tmp 22) (Operand.tmp 163), type := 0, pos := pz, after := #[{ on := 12, ground := Ground.data }, { on := 8, ground := Ground.data }, { on := 6, ground := Ground.chain }, { on := 0, ground := Ground.phase }, { on := 1, ground := Ground.phase }, { on := 2, ground := Ground.phase }, { on := 3, ground := Ground.phase }, { on := 4, ground := Ground.phase }, { on := 5, ground := Ground.phase }, { on := 6, ground := Ground.phase }, { on := 7, ground := Ground.phase }, { on := 8, ground := Ground.phase }, { on := 9, ground := Ground.textOnly Departure.lateStores }, { on := 10, ground := Ground.textOnly Departure.lateStores }, { on := 11, ground := Ground.textOnly Departure.lateStores }, { on := 12, ground := Ground.phase }, { on := 13, ground := Ground.phase }], guard := none }).run Tryz.prog W = .ok .skip ((W.setCell ⟨G, 0, none⟩ (.int .i64 p)).setCell ⟨G, 1, none⟩ (.slice ca nr cc)) := by
  obtain ⟨q1, q2, q3⟩ := k.two'
  go_simp
theorem run42_15 {pz : String} (a : Act) (W : World) (G : Nat) (A1 A2 A3 : Option Addr) (M1 D1 M2 D2 M3 D3 : Nat) (c0 c1 c2 : Value) (h1 : a.tmps[23]?.getD undef = .pointer (some ⟨G, 0, none⟩)) (h2 : a.tmps[164]?.getD undef = .agg #[.slice A1 M1 D1, .slice A2 M2 D2, .slice A3 M3 D3]) (k : Blk W G #[c0, c1, c2] 38) : (execOp a.eval { dst := none, op := Op.store 38 (Operand.tmp 23) (Operand.tmp 164), type := 0, pos := pz, after := #[{ on := 13, ground := Ground.data }, { on := 9, ground := Ground.data }, { on := 14, ground := Ground.chain }, { on := 0, ground := Ground.phase }, { on := 1, ground := Ground.phase }, { on := 2, ground := Ground.phase }, { on := 3, ground := Ground.phase }, { on := 4, ground := Ground.phase }, { on := 5, ground := Ground.phase }, { on := 6, ground := Ground.phase }, { on := 7, ground := Ground.phase }, { on := 8, ground := Ground.phase }, { on := 9, ground := Ground.phase }, { on := 10, ground := Ground.textOnly Departure.lateStores }, { on := 11, ground := Ground.textOnly Departure.lateStores }, { on := 12, ground := Ground.phase }, { on := 13, ground := Ground.phase }, { on := 14, ground := Ground.phase }], guard := none }).run Tryz.prog W = .ok .skip (((W.setCell ⟨G, 0, none⟩ (.slice A1 M1 D1)).setCell ⟨G, 1, none⟩ (.slice A2 M2 D2)).setCell ⟨G, 2, none⟩ (.slice A3 M3 D3)) := by
  obtain ⟨q1, q2, q3, q4⟩ := k.three
  go_simp
theorem run42_16 {pz : String} (a : Act) (W : World) (u : Value) (h : a.tmps[165]?.getD undef = u) : (execOp a.eval { dst := some 24, op := Op.assign (Operand.tmp 165), type := 3, pos := pz, after := #[{ on := 10, ground := Ground.data }, { on := 15, ground := Ground.chain }, { on := 0, ground := Ground.phase }, { on := 1, ground := Ground.phase }, { on := 2, ground := Ground.phase }, { on := 3, ground := Ground.phase }, { on := 4, ground := Ground.phase }, { on := 5, ground := Ground.phase }, { on := 6, ground := Ground.phase }, { on := 7, ground := Ground.phase }, { on := 8, ground := Ground.phase }, { on := 9, ground := Ground.phase }, { on := 10, ground := Ground.phase }, { on := 11, ground := Ground.textOnly Departure.lateStores }, { on := 12, ground := Ground.phase }, { on := 13, ground := Ground.phase }, { on := 14, ground := Ground.phase }, { on := 15, ground := Ground.phase }], guard := none }).run Tryz.prog W = .ok (.value u) W := by
  go_simp
theorem run42_17 {pz : String} (a : Act) (W : World) (u : Value) (h : a.tmps[166]?.getD undef = u) : (execOp a.eval { dst := some 25, op := Op.assign (Operand.tmp 166), type := 3, pos := pz, after := #[{ on := 11, ground := Ground.data }, { on := 16, ground := Ground.chain }, { on := 0, ground := Ground.phase }, { on := 1, ground := Ground.phase }, { on := 2, ground := Ground.phase }, { on := 3, ground := Ground.phase }, { on := 4, ground := Ground.phase }, { on := 5, ground := Ground.phase }, { on := 6, ground := Ground.phase }, { on := 7, ground := Ground.phase }, { on := 8, ground := Ground.phase }, { on := 9, ground := Ground.phase }, { on := 10, ground := Ground.phase }, { on := 11, ground := Ground.phase }, { on := 12, ground := Ground.phase }, { on := 13, ground := Ground.phase }, { on := 14, ground := Ground.phase }, { on := 15, ground := Ground.phase }, { on := 16, ground := Ground.phase }], guard := none }).run Tryz.prog W = .ok (.value u) W := by
  go_simp

set_option maxHeartbeats 2000000 in
theorem region42 {pz : String} (A0 : Act) (W0 : World) (GA GB : Nat) (Q : Exit → Act → World → Prop) (pc : Int) (ka : Option Addr) (kn kc : Nat) (kz : List Int) (a1 a2 a3 : Option Addr) (n1 c1 n2 c2 n3 c3 : Nat) (x1 x2 x3 : List Int) (ra : Option Addr) (rn rc : Nat) (rs : List Rg) (R : Res) (hsz : A0.tmps.size = 187) (hA2 : A0.eval (.tmp 2) = .slice ra rn rc) (hA3 : A0.eval (.tmp 3) = .pointer (some ⟨GA, 0, none⟩)) (hA4 : A0.eval (.tmp 4) = .pointer (some ⟨GB, 0, none⟩))
    (kc2 : Blk W0 GA #[.int .i64 pc, .slice ka kn kc] 52) (km2 : Blk W0 GB #[.slice a1 n1 c1, .slice a2 n2 c2, .slice a3 n3 c3] 53) (hc2 : IS W0 ka kn kc kz) (h12 : BS W0 a1 n1 c1 x1) (h22 : BS W0 a2 n2 c2 x2) (h32 : BS W0 a3 n3 c3 x3) (hr2 : RS W0 ra rn rc rs) (hkn : kn ≤ 1048576) (hn : n1 + n2 + n3 ≤ 1048576) (hrn : rn ≤ 1048576)
    (HR : Hid (stepF pc kn kz n1 n2 n3 x1 x2 x3 rs rn = R)) (hA0 : A0 = putL A0 [(156, undef), (157, undef), (158, undef), (159, undef), (160, undef), (161, undef), (162, undef), (155, undef), (163, undef), (164, undef), (165, undef), (166, undef), (22, undef), (23, undef), (24, undef), (25, undef)])
    (hend : ∀ (y0 y1 y2 y3 y4 y5 y6 y7 y8 y9 y10 y11 : Value) (ca : Option Addr) (nr cc : Nat) (A1 : Option Addr) (M1 D1 : Nat) (A2 : Option Addr) (M2 D2 : Nat) (A3 : Option Addr) (M3 D3 : Nat) (G0 G1 : Nat) (W : World), Below W0.heap.size W0 W → OI W W0.heap.size (.slice ca nr cc) R.rg → Own3 W W0.heap.size (.slice A1 M1 D1) (.slice A2 M2 D2) (.slice A3 M3 D3) R.x1 R.x2 R.x3 → W0.heap.size ≤ G0 → W0.heap.size ≤ G1 →
      Blk W G0 #[.int .i64 R.pc, .slice ca nr cc] 58 → Blk W G1 #[.slice A1 M1 D1, .slice A2 M2 D2, .slice A3 M3 D3] 38 → Q .normal (putL A0 [(156, y0), (157, y1), (158, y2), (159, y3), (160, y4), (161, y5), (162, y6), (155, y7), (163, y8), (164, y9), (165, y10), (166, y11), (22, .pointer (some ⟨G0, 0, none⟩)), (23, .pointer (some ⟨G1, 0, none⟩)), (24, .int .i64 R.did), (25, .int .i64 R.num)]) W) :
    (Code.region 42 #[{ dst := some 156, op := Op.load 52 (Operand.tmp 3), type := 52, pos := pz, after := #[], guard := none }, { dst := some 157, op := Op.call { callee := Callee.value (Operand.func 21), args := #[Operand.tmp 156], argTypes := #[52] }, type := 58, pos := pz, after := #[{ on := 0, ground := Ground.data }], guard := none }, { dst := some 158, op := Op.load 53 (Operand.tmp 4), type := 53, pos := pz, after := #[], guard := none }, { dst := some 159, op := Op.call { callee := Callee.value (Operand.func 22), args := #[Operand.tmp 158], argTypes := #[53] }, type := 38, pos := pz, after := #[{ on := 2, ground := Ground.data }, { on := 1, ground := Ground.chain }], guard := none }, { dst := some 160, op := Op.move (Operand.tmp 2), type := 54, pos := pz, after := #[], guard := none }, { dst := some 161, op := Op.call { callee := Callee.value (Operand.func 23), args := #[Operand.tmp 160], argTypes := #[54] }, type := 63, pos := pz, after := #[{ on := 4, ground := Ground.data }, { on := 3, ground := Ground.chain }], guard := none }, { dst := some 162, op := Op.call { callee := Callee.value (Operand.func 24), args := #[Operand.tmp 157, Operand.tmp 159, Operand.tmp 161], argTypes := #[58, 38, 63] }, type := 59, pos := pz, after := #[{ on := 1, ground := Ground.data }, { on := 3, ground := Ground.data }, { on := 5, ground := Ground.data }, { on := 5, ground := Ground.chain }], guard := none }, { dst := some 155, op := Op.move (Operand.tmp 162), type := 59, pos := pz, after := #[{ on := 6, ground := Ground.data }], guard := none }, { dst := some 163, op := Op.extract (Operand.tmp 155) 0, type := 58, pos := pz, after := #[{ on := 7, ground := Ground.data }], guard := none }, { dst := some 164, op := Op.extract (Operand.tmp 155) 1, type := 38, pos := pz, after := #[{ on := 7, ground := Ground.data }, { on := 14, ground := Ground.gcOnly Departure.lateStores }], guard := none }, { dst := some 165, op := Op.extract (Operand.tmp 155) 2, type := 3, pos := pz, after := #[{ on := 7, ground := Ground.data }, { on := 15, ground := Ground.gcOnly Departure.lateStores }], guard := none }, { dst := some 166, op := Op.extract (Operand.tmp 155) 3, type := 3, pos := pz, after := #[{ on := 7, ground := Ground.data }, { on := 16, ground := Ground.gcOnly Departure.lateStores }], guard := none }, { dst := some 22, op := Op.alloc 58, type := 0, pos := pz, after := #[], guard := none }, { dst := some 23, op := Op.alloc 38, type := 0, pos := pz, after := #[], guard := none }, { dst := none, op := Op.store 58 (Operand.tmp 22) (Operand.tmp 163), type := 0, pos := pz, after := #[{ on := 12, ground := Ground.data }, { on := 8, ground := Ground.data }, { on := 6, ground := Ground.chain }, { on := 0, ground := Ground.phase }, { on := 1, ground := Ground.phase }, { on := 2, ground := Ground.phase }, { on := 3, ground := Ground.phase }, { on := 4, ground := Ground.phase }, { on := 5, ground := Ground.phase }, { on := 6, ground := Ground.phase }, { on := 7, ground := Ground.phase }, { on := 8, ground := Ground.phase }, { on := 9, ground := Ground.textOnly Departure.lateStores }, { on := 10, ground := Ground.textOnly Departure.lateStores }, { on := 11, ground := Ground.textOnly Departure.lateStores }, { on := 12, ground := Ground.phase }, { on := 13, ground := Ground.phase }], guard := none }, { dst := none, op := Op.store 38 (Operand.tmp 23) (Operand.tmp 164), type := 0, pos := pz, after := #[{ on := 13, ground := Ground.data }, { on := 9, ground := Ground.data }, { on := 14, ground := Ground.chain }, { on := 0, ground := Ground.phase }, { on := 1, ground := Ground.phase }, { on := 2, ground := Ground.phase }, { on := 3, ground := Ground.phase }, { on := 4, ground := Ground.phase }, { on := 5, ground := Ground.phase }, { on := 6, ground := Ground.phase }, { on := 7, ground := Ground.phase }, { on := 8, ground := Ground.phase }, { on := 9, ground := Ground.phase }, { on := 10, ground := Ground.textOnly Departure.lateStores }, { on := 11, ground := Ground.textOnly Departure.lateStores }, { on := 12, ground := Ground.phase }, { on := 13, ground := Ground.phase }, { on := 14, ground := Ground.phase }], guard := none }, { dst := some 24, op := Op.assign (Operand.tmp 165), type := 3, pos := pz, after := #[{ on := 10, ground := Ground.data }, { on := 15, ground := Ground.chain }, { on := 0, ground := Ground.phase }, { on := 1, ground := Ground.phase }, { on := 2, ground := Ground.phase }, { on := 3, ground := Ground.phase }, { on := 4, ground := Ground.phase }, { on := 5, ground := Ground.phase }, { on := 6, ground := Ground.phase }, { on := 7, ground := Ground.phase }, { on := 8, ground := Ground.phase }, { on := 9, ground := Ground.phase }, { on := 10, ground := Ground.phase }, { on := 11, ground := Ground.textOnly Departure.lateStores }, { on := 12, ground := Ground.phase }, { on := 13, ground := Ground.phase }, { on := 14, ground := Ground.phase }, { on := 15, ground := Ground.phase }], guard := none }, { dst := some 25, op := Op.assign (Operand.tmp 166), type := 3, pos := pz, after := #[{ on := 11, ground := Ground.data }, { on := 16, ground := Ground.chain }, { on := 0, ground := Ground.phase }, { on := 1, ground := Ground.phase }, { on := 2, ground := Ground.phase }, { on := 3, ground := Ground.phase }, { on := 4, ground := Ground.phase }, { on := 5, ground := Ground.phase }, { on := 6, ground := Ground.phase }, { on := 7, ground := Ground.phase }, { on := 8, ground := Ground.phase }, { on := 9, ground := Ground.phase }, { on := 10, ground := Ground.phase }, { on := 11, ground := Ground.phase }, { on := 12, ground := Ground.phase }, { on := 13, ground := Ground.phase }, { on := 14, ground := Ground.phase }, { on := 15, ground := Ground.phase }, { on := 16, ground := Ground.phase }], guard := none }] true).wp Tryz.prog Q A0 W0 := by
  have m0 := hc2.2.1
  have m1 := h12.2.1
  have m2 := h22.2.1
  have m3 := h32.2.1
  have m4 := hr2.2.1
  have SC := hide (show kz.length ≤ maxLen ∧ (∀ z ∈ kz, wfi z) ∧ kz.length = kn from ⟨by rw [hc2.1]; exact m0, hc2.2.2.1, hc2.1⟩)
  have S1 := hide (show x1.length ≤ maxLen ∧ (∀ z ∈ x1, 0 ≤ z ∧ z ≤ 255) ∧ x1.length = n1 from ⟨by rw [h12.1]; exact m1, h12.2.2.1, h12.1⟩)
  have S2 := hide (show x2.length ≤ maxLen ∧ (∀ z ∈ x2, 0 ≤ z ∧ z ≤ 255) ∧ x2.length = n2 from ⟨by rw [h22.1]; exact m2, h22.2.2.1, h22.1⟩)
  have S3 := hide (show x3.length ≤ maxLen ∧ (∀ z ∈ x3, 0 ≤ z ∧ z ≤ 255) ∧ x3.length = n3 from ⟨by rw [h32.1]; exact m3, h32.2.2.1, h32.1⟩)
  have SR := hide (show rs.length ≤ maxLen ∧ (∀ g ∈ rs, wfi g.1 ∧ wfi g.2.1 ∧ wfi g.2.2.1) ∧ rs.length = rn from ⟨by rw [hr2.1]; exact m4, hr2.2.2.1, hr2.1⟩)
  have HEND := hide hend
  have HA0 := hide hA0
  clear hend hA0
  refine wp_region_inv0 (by kernel_rfl) (fun A0 listed a W => ∃ v : SV, listed = v.listed ∧ a = putL A0 (sl42 v) ∧ IF W0 kn n1 n2 n3 rn pc kz x1 x2 x3 rs R ka kc a1 c1 a2 c2 a3 c3 ra rc v W) ?_ ?_ ?_
  · exact ⟨⟨false, false, false, false, false, false, false, false, false, false, false, false, false, false, false, false, false, false, undef, undef, undef, undef, undef, undef, undef, undef, undef, undef, undef, undef, undef, undef, undef, undef, none, 0, 0, none, 0, 0, none, 0, 0, none, 0, 0, 0, 0⟩, rfl, HA0.out, ⟨(fun f => by cases f), (fun f => by cases f), (fun f => by cases f), (fun f => by cases f), (fun f => by cases f), (fun f => by cases f), (fun f => by cases f), (fun f => by cases f), (fun _ => rfl), (fun _ => rfl), (fun f => by cases f), (fun f => by cases f), (fun _ => ⟨rfl, rfl, rfl, rfl, rfl, rfl, rfl⟩), ⟨(Below.refl _ _).drew, (fun f _ => by cases f), (fun f _ => by cases f), (fun f _ => by cases f), (fun f => by cases f), (fun f => by cases f), (fun f => by cases f)⟩⟩⟩
  · intro listed a W i K hI hi hK
    obtain ⟨v, rfl, rfl, H⟩ := hI
    have hlt : i < 18 := by obtain ⟨_, o, ho, _⟩ := mem_ready.1 hi; exact (Array.getElem?_eq_some_iff.1 ho).1
    have hb := (mem_ready.1 hi).1
    have HH := hide H
    have F := hide H.F
    clear H
    rcases (show i = 0 ∨ i = 1 ∨ i = 2 ∨ i = 3 ∨ i = 4 ∨ i = 5 ∨ i = 6 ∨ i = 7 ∨ i = 8 ∨ i = 9 ∨ i = 10 ∨ i = 11 ∨ i = 12 ∨ i = 13 ∨ i = 14 ∨ i = 15 ∨ i = 16 ∨ i = 17 by omega) with rfl | rfl | rfl | rfl | rfl | rfl | rfl | rfl | rfl | rfl | rfl | rfl | rfl | rfl | rfl | rfl | rfl | rfl
    · have f0 : v.b0 = false := hb
      have v0 := ev42_a3 v hA3
      have hrun := run42_0 (pz := pz) _ W GA pc ka kn kc v0 (kc2.below F.out.hB)
      have hfr : (putL A0 (sl42 v)).put (some 156) (.agg #[.int .i64 pc, .slice ka kn kc]) = putL A0 (sl42 { v with b0 := true, y0 := .agg #[.int .i64 pc, .slice ka kn kc] }) := put42_0 v { v with b0 := true, y0 := .agg #[.int .i64 pc, .slice ka kn kc] } (.agg #[.int .i64 pc, .slice ka kn kc]) (by rfl)
      exact wpOp_value (o := { dst := some 156, op := Op.load 52 (Operand.tmp 3), type := 52, pos := pz, after := #[], guard := none }) (by kernel_rfl) rfl hrun (hK _ _ ⟨{ v with b0 := true, y0 := .agg #[.int .i64 pc, .slice ka kn kc] }, rfl, hfr, ⟨(fun _ => rfl), HH.out.e2, HH.out.e4, HH.out.e7, HH.out.e8, HH.out.e9, HH.out.e10, HH.out.e11, HH.out.e12, HH.out.e13, HH.out.e16, HH.out.e17, HH.out.e6, ⟨F.out.hB, F.out.p1, F.out.p3, F.out.p5, F.out.p6, F.out.p12, F.out.p13⟩⟩⟩)
    · have f1 : v.b1 = false := hb
      have t0 : v.b0 = true := ready_pre (o := { dst := some 157, op := Op.call { callee := Callee.value (Operand.func 21), args := #[Operand.tmp 156], argTypes := #[52] }, type := 58, pos := pz, after := #[{ on := 0, ground := Ground.data }], guard := none }) hi (by kernel_rfl) ⟨0, .data⟩ (by simp) rfl
      have u0 := HH.out.e0 t0
      have v0 := ev42_0 v hsz
      rw [u0] at v0
      have hrun := run42_1 (pz := pz) _ W _ v0
      refine wpOp_call (o := { dst := some 157, op := Op.call { callee := Callee.value (Operand.func 21), args := #[Operand.tmp 156], argTypes := #[52] }, type := 58, pos := pz, after := #[{ on := 0, ground := Ground.data }], guard := none }) (by kernel_rfl) rfl hrun (toCore_any pc ka kn kc kz _ (hc2.below F.out.hB) hkn) ?_
      rintro e W' ⟨g, hg, rfl, r, hbb⟩
      have hfr : (putL A0 (sl42 v)).put (some 157) (.agg #[.int .i64 pc, .slice (some ⟨g, 0, none⟩) kn kn]) = putL A0 (sl42 { v with b1 := true, y1 := .agg #[.int .i64 pc, .slice (some ⟨g, 0, none⟩) kn kn] }) := put42_1 v { v with b1 := true, y1 := .agg #[.int .i64 pc, .slice (some ⟨g, 0, none⟩) kn kn] } (.agg #[.int .i64 pc, .slice (some ⟨g, 0, none⟩) kn kn]) (by rfl)
      exact ⟨_, rfl, hK _ _ ⟨{ v with b1 := true, y1 := .agg #[.int .i64 pc, .slice (some ⟨g, 0, none⟩) kn kn] }, rfl, hfr, ⟨HH.out.e0, HH.out.e2, HH.out.e4, HH.out.e7, HH.out.e8, HH.out.e9, HH.out.e10, HH.out.e11, HH.out.e12, HH.out.e13, HH.out.e16, HH.out.e17, HH.out.e6, ((F.out.below hbb).at1 g r)⟩⟩⟩
    · have f2 : v.b2 = false := hb
      have v0 := ev42_a4 v hA4
      have hrun := run42_2 (pz := pz) _ W GB a1 a2 a3 n1 c1 n2 c2 n3 c3 v0 (km2.below F.out.hB)
      have hfr : (putL A0 (sl42 v)).put (some 158) (.agg #[.slice a1 n1 c1, .slice a2 n2 c2, .slice a3 n3 c3]) = putL A0 (sl42 { v with b2 := true, y2 := .agg #[.slice a1 n1 c1, .slice a2 n2 c2, .slice a3 n3 c3] }) := put42_2 v { v with b2 := true, y2 := .agg #[.slice a1 n1 c1, .slice a2 n2 c2, .slice a3 n3 c3] } (.agg #[.slice a1 n1 c1, .slice a2 n2 c2, .slice a3 n3 c3]) (by rfl)
      exact wpOp_value (o := { dst := some 158, op := Op.load 53 (Operand.tmp 4), type := 53, pos := pz, after := #[], guard := none }) (by kernel_rfl) rfl hrun (hK _ _ ⟨{ v with b2 := true, y2 := .agg #[.slice a1 n1 c1, .slice a2 n2 c2, .slice a3 n3 c3] }, rfl, hfr, ⟨HH.out.e0, (fun _ => rfl), HH.out.e4, HH.out.e7, HH.out.e8, HH.out.e9, HH.out.e10, HH.out.e11, HH.out.e12, HH.out.e13, HH.out.e16, HH.out.e17, HH.out.e6, ⟨F.out.hB, F.out.p1, F.out.p3, F.out.p5, F.out.p6, F.out.p12, F.out.p13⟩⟩⟩)
    · have f3 : v.b3 = false := hb
      have t2 : v.b2 = true := ready_pre (o := { dst := some 159, op := Op.call { callee := Callee.value (Operand.func 22), args := #[Operand.tmp 158], argTypes := #[53] }, type := 38, pos := pz, after := #[{ on := 2, ground := Ground.data }, { on := 1, ground := Ground.chain }], guard := none }) hi (by kernel_rfl) ⟨2, .data⟩ (by simp) rfl
      have u2 := HH.out.e2 t2
      have v0 := ev42_2 v hsz
      rw [u2] at v0
      have hrun := run42_3 (pz := pz) _ W _ v0
      refine wpOp_call (o := { dst := some 159, op := Op.call { callee := Callee.value (Operand.func 22), args := #[Operand.tmp 158], argTypes := #[53] }, type := 38, pos := pz, after := #[{ on := 2, ground := Ground.data }, { on := 1, ground := Ground.chain }], guard := none }) (by kernel_rfl) rfl hrun (toMem_any a1 a2 a3 n1 c1 n2 c2 n3 c3 x1 x2 x3 _ (h12.below F.out.hB) (h22.below F.out.hB) (h32.below F.out.hB) hn) ?_
      rintro e W' ⟨g1, g2, g3, rfl, _, _, _, r1, r2, r3, hbb⟩
      have hfr : (putL A0 (sl42 v)).put (some 159) (.agg #[.slice (some ⟨g1, 0, none⟩) n1 n1, .slice (some ⟨g2, 0, none⟩) n2 n2, .slice (some ⟨g3, 0, none⟩) n3 n3]) = putL A0 (sl42 { v with b3 := true, y3 := .agg #[.slice (some ⟨g1, 0, none⟩) n1 n1, .slice (some ⟨g2, 0, none⟩) n2 n2, .slice (some ⟨g3, 0, none⟩) n3 n3] }) := put42_3 v { v with b3 := true, y3 := .agg #[.slice (some ⟨g1, 0, none⟩) n1 n1, .slice (some ⟨g2, 0, none⟩) n2 n2, .slice (some ⟨g3, 0, none⟩) n3 n3] } (.agg #[.slice (some ⟨g1, 0, none⟩) n1 n1, .slice (some ⟨g2, 0, none⟩) n2 n2, .slice (some ⟨g3, 0, none⟩) n3 n3]) (by rfl)
      exact ⟨_, rfl, hK _ _ ⟨{ v with b3 := true, y3 := .agg #[.slice (some ⟨g1, 0, none⟩) n1 n1, .slice (some ⟨g2, 0, none⟩) n2 n2, .slice (some ⟨g3, 0, none⟩) n3 n3] }, rfl, hfr, ⟨HH.out.e0, HH.out.e2, HH.out.e4, HH.out.e7, HH.out.e8, HH.out.e9, HH.out.e10, HH.out.e11, HH.out.e12, HH.out.e13, HH.out.e16, HH.out.e17, HH.out.e6, ((F.out.below hbb).at3 g1 g2 g3 r1 r2 r3)⟩⟩⟩
    · have f4 : v.b4 = false := hb
      have v0 := ev42_a2 v hA2
      have hrun := run42_4 (pz := pz) _ W _ v0
      have hfr : (putL A0 (sl42 v)).put (some 160) (.slice ra rn rc) = putL A0 (sl42 { v with b4 := true, y4 := .slice ra rn rc }) := put42_4 v { v with b4 := true, y4 := .slice ra rn rc } (.slice ra rn rc) (by rfl)
      exact wpOp_value (o := { dst := some 160, op := Op.move (Operand.tmp 2), type := 54, pos := pz, after := #[], guard := none }) (by kernel_rfl) rfl hrun (hK _ _ ⟨{ v with b4 := true, y4 := .slice ra rn rc }, rfl, hfr, ⟨HH.out.e0, HH.out.e2, (fun _ => rfl), HH.out.e7, HH.out.e8, HH.out.e9, HH.out.e10, HH.out.e11, HH.out.e12, HH.out.e13, HH.out.e16, HH.out.e17, HH.out.e6, ⟨F.out.hB, F.out.p1, F.out.p3, F.out.p5, F.out.p6, F.out.p12, F.out.p13⟩⟩⟩)
    · have f5 : v.b5 = false := hb
      have t4 : v.b4 = true := ready_pre (o := { dst := some 161, op := Op.call { callee := Callee.value (Operand.func 23), args := #[Operand.tmp 160], argTypes := #[54] }, type := 63, pos := pz, after := #[{ on := 4, ground := Ground.data }, { on := 3, ground := Ground.chain }], guard := none }) hi (by kernel_rfl) ⟨4, .data⟩ (by simp) rfl
      have u4 := HH.out.e4 t4
      have v0 := ev42_4 v hsz
      rw [u4] at v0
      have hrun := run42_5 (pz := pz) _ W _ v0
      refine wpOp_call (o := { dst := some 161, op := Op.call { callee := Callee.value (Operand.func 23), args := #[Operand.tmp 160], argTypes := #[54] }, type := 63, pos := pz, after := #[{ on := 4, ground := Ground.data }, { on := 3, ground := Ground.chain }], guard := none }) (by kernel_rfl) rfl hrun (toRegionS_any ra rn rc rs _ (hr2.below F.out.hB) hrn) ?_
      rintro e W' ⟨g, hg, rfl, r, hbb⟩
      have hfr : (putL A0 (sl42 v)).put (some 161) (.slice (some ⟨g, 0, none⟩) rn rn) = putL A0 (sl42 { v with b5 := true, y5 := .slice (some ⟨g, 0, none⟩) rn rn }) := put42_5 v { v with b5 := true, y5 := .slice (some ⟨g, 0, none⟩) rn rn } (.slice (some ⟨g, 0, none⟩) rn rn) (by rfl)
      exact ⟨_, rfl, hK _ _ ⟨{ v with b5 := true, y5 := .slice (some ⟨g, 0, none⟩) rn rn }, rfl, hfr, ⟨HH.out.e0, HH.out.e2, HH.out.e4, HH.out.e7, HH.out.e8, HH.out.e9, HH.out.e10, HH.out.e11, HH.out.e12, HH.out.e13, HH.out.e16, HH.out.e17, HH.out.e6, ((F.out.below hbb).at5 g r)⟩⟩⟩
    · have f6 : v.b6 = false := hb
      have t1 : v.b1 = true := ready_pre (o := { dst := some 162, op := Op.call { callee := Callee.value (Operand.func 24), args := #[Operand.tmp 157, Operand.tmp 159, Operand.tmp 161], argTypes := #[58, 38, 63] }, type := 59, pos := pz, after := #[{ on := 1, ground := Ground.data }, { on := 3, ground := Ground.data }, { on := 5, ground := Ground.data }, { on := 5, ground := Ground.chain }], guard := none }) hi (by kernel_rfl) ⟨1, .data⟩ (by simp) rfl
      have t3 : v.b3 = true := ready_pre (o := { dst := some 162, op := Op.call { callee := Callee.value (Operand.func 24), args := #[Operand.tmp 157, Operand.tmp 159, Operand.tmp 161], argTypes := #[58, 38, 63] }, type := 59, pos := pz, after := #[{ on := 1, ground := Ground.data }, { on := 3, ground := Ground.data }, { on := 5, ground := Ground.data }, { on := 5, ground := Ground.chain }], guard := none }) hi (by kernel_rfl) ⟨3, .data⟩ (by simp) rfl
      have t5 : v.b5 = true := ready_pre (o := { dst := some 162, op := Op.call { callee := Callee.value (Operand.func 24), args := #[Operand.tmp 157, Operand.tmp 159, Operand.tmp 161], argTypes := #[58, 38, 63] }, type := 59, pos := pz, after := #[{ on := 1, ground := Ground.data }, { on := 3, ground := Ground.data }, { on := 5, ground := Ground.data }, { on := 5, ground := Ground.chain }], guard := none }) hi (by kernel_rfl) ⟨5, .data⟩ (by simp) rfl
      obtain ⟨z7, z8, z9, z10, z11, z14, z15⟩ := HH.out.e6 f6
      obtain ⟨g, u1, r⟩ := F.out.p1 t1 f6
      obtain ⟨g1, g2, g3, u3, r1, r2, r3⟩ := F.out.p3 t3 f6
      obtain ⟨gr, u5, rr⟩ := F.out.p5 t5 f6
      have IC := r.is SC.out.1 SC.out.2.1 _ _ SC.out.2.2
      have I1 := r1.bs S1.out.1 S1.out.2.1 _ _ S1.out.2.2
      have I2 := r2.bs S2.out.1 S2.out.2.1 _ _ S2.out.2.2
      have I3 := r3.bs S3.out.1 S3.out.2.1 _ _ S3.out.2.2
      have IR := rr.rs SR.out.1 SR.out.2.1 _ _ SR.out.2.2
      have hlow : ∀ b off, (some (⟨gr, 0, none⟩ : Addr)) = some ⟨b, off, none⟩ → b < W.heap.size := fun b off e => by injection e with e; injection e with e1; have := rr.lt; omega
      have v0 := ev42_1 v hsz
      rw [u1] at v0
      have v1 := ev42_3 v hsz
      rw [u3] at v1
      have v2 := ev42_5 v hsz
      rw [u5] at v2
      have hrun := run42_6 (pz := pz) _ W _ _ _ v0 v1 v2
      refine wpOp_call (o := { dst := some 162, op := Op.call { callee := Callee.value (Operand.func 24), args := #[Operand.tmp 157, Operand.tmp 159, Operand.tmp 161], argTypes := #[58, 38, 63] }, type := 59, pos := pz, after := #[{ on := 1, ground := Ground.data }, { on := 3, ground := Ground.data }, { on := 5, ground := Ground.data }, { on := 5, ground := Ground.chain }], guard := none }) (by kernel_rfl) rfl hrun (iStep_any pc g 0 kn kn kz g1 0 g2 0 g3 0 n1 n1 n2 n2 n3 n3 x1 x2 x3 (some ⟨gr, 0, none⟩) rn rn rs _ IC I1 I2 I3 IR hlow hkn hn) ?_
      rw [HR.out]
      rintro e W' hp
      obtain ⟨y6', ca', nr', cc', A1', M1', D1', A2', M2', D2', A3', M3', D3', rfl, F'⟩ := F.out.at6 z14 z15 hp
      have hfr : (putL A0 (sl42 v)).put (some 162) (y6') = putL A0 (sl42 { v with b6 := true, y6 := y6', ca := ca', nr := nr', cc := cc', A1 := A1', M1 := M1', D1 := D1', A2 := A2', M2 := M2', D2 := D2', A3 := A3', M3 := M3', D3 := D3' }) := put42_6 v { v with b6 := true, y6 := y6', ca := ca', nr := nr', cc := cc', A1 := A1', M1 := M1', D1 := D1', A2 := A2', M2 := M2', D2 := D2', A3 := A3', M3 := M3', D3 := D3' } (y6') (by rfl)
      exact ⟨_, rfl, hK _ _ ⟨{ v with b6 := true, y6 := y6', ca := ca', nr := nr', cc := cc', A1 := A1', M1 := M1', D1 := D1', A2 := A2', M2 := M2', D2 := D2', A3 := A3', M3 := M3', D3 := D3' }, rfl, hfr, ⟨HH.out.e0, HH.out.e2, HH.out.e4, (fun f => by have f' : v.b7 = true := f; rw [z7] at f'; cases f'), (fun f => by have f' : v.b8 = true := f; rw [z8] at f'; cases f'), (fun f => by have f' : v.b9 = true := f; rw [z9] at f'; cases f'), (fun f => HH.out.e10 f), (fun f => HH.out.e11 f), HH.out.e12, HH.out.e13, HH.out.e16, HH.out.e17, (fun f => by cases f), F'⟩⟩⟩
    · have f7 : v.b7 = false := hb
      have t6 : v.b6 = true := ready_pre (o := { dst := some 155, op := Op.move (Operand.tmp 162), type := 59, pos := pz, after := #[{ on := 6, ground := Ground.data }], guard := none }) hi (by kernel_rfl) ⟨6, .data⟩ (by simp) rfl
      have v0 := ev42_6 v hsz
      have hrun := run42_7 (pz := pz) _ W _ v0
      have hfr : (putL A0 (sl42 v)).put (some 155) (v.y6) = putL A0 (sl42 { v with b7 := true, y7 := v.y6 }) := put42_7 v { v with b7 := true, y7 := v.y6 } (v.y6) (by rfl)
      exact wpOp_value (o := { dst := some 155, op := Op.move (Operand.tmp 162), type := 59, pos := pz, after := #[{ on := 6, ground := Ground.data }], guard := none }) (by kernel_rfl) rfl hrun (hK _ _ ⟨{ v with b7 := true, y7 := v.y6 }, rfl, hfr, ⟨HH.out.e0, HH.out.e2, HH.out.e4, (fun _ => ⟨rfl, t6⟩), HH.out.e8, HH.out.e9, HH.out.e10, HH.out.e11, HH.out.e12, HH.out.e13, HH.out.e16, HH.out.e17, (fun f => by have f' : v.b6 = false := f; rw [t6] at f'; cases f'), ⟨F.out.hB, F.out.p1, F.out.p3, F.out.p5, F.out.p6, F.out.p12, F.out.p13⟩⟩⟩)
    · have f8 : v.b8 = false := hb
      have t7 : v.b7 = true := ready_pre (o := { dst := some 163, op := Op.extract (Operand.tmp 155) 0, type := 58, pos := pz, after := #[{ on := 7, ground := Ground.data }], guard := none }) hi (by kernel_rfl) ⟨7, .data⟩ (by simp) rfl
      obtain ⟨u7, t6⟩ := HH.out.e7 t7
      have u6 := (F.out.p6 t6).1
      rw [u6] at u7
      have v0 := ev42_7 v hsz
      rw [u7] at v0
      have hrun := run42_8 (pz := pz) _ W _ _ _ _ v0
      have hfr : (putL A0 (sl42 v)).put (some 163) (.agg #[.int .i64 R.pc, .slice v.ca v.nr v.cc]) = putL A0 (sl42 { v with b8 := true, y8 := .agg #[.int .i64 R.pc, .slice v.ca v.nr v.cc] }) := put42_8 v { v with b8 := true, y8 := .agg #[.int .i64 R.pc, .slice v.ca v.nr v.cc] } (.agg #[.int .i64 R.pc, .slice v.ca v.nr v.cc]) (by rfl)
      exact wpOp_value (o := { dst := some 163, op := Op.extract (Operand.tmp 155) 0, type := 58, pos := pz, after := #[{ on := 7, ground := Ground.data }], guard := none }) (by kernel_rfl) rfl hrun (hK _ _ ⟨{ v with b8 := true, y8 := .agg #[.int .i64 R.pc, .slice v.ca v.nr v.cc] }, rfl, hfr, ⟨HH.out.e0, HH.out.e2, HH.out.e4, HH.out.e7, (fun _ => rfl), HH.out.e9, HH.out.e10, HH.out.e11, HH.out.e12, HH.out.e13, HH.out.e16, HH.out.e17, (fun f => by have f' : v.b6 = false := f; rw [t6] at f'; cases f'), ⟨F.out.hB, F.out.p1, F.out.p3, F.out.p5, F.out.p6, F.out.p12, F.out.p13⟩⟩⟩)
    · have f9 : v.b9 = false := hb
      have t7 : v.b7 = true := ready_pre (o := { dst := some 164, op := Op.extract (Operand.tmp 155) 1, type := 38, pos := pz, after := #[{ on := 7, ground := Ground.data }, { on := 14, ground := Ground.gcOnly Departure.lateStores }], guard := none }) hi (by kernel_rfl) ⟨7, .data⟩ (by simp) rfl
      obtain ⟨u7, t6⟩ := HH.out.e7 t7
      have u6 := (F.out.p6 t6).1
      rw [u6] at u7
      have v0 := ev42_7 v hsz
      rw [u7] at v0
      have hrun := run42_9 (pz := pz) _ W _ _ _ _ v0
      have hfr : (putL A0 (sl42 v)).put (some 164) (.agg #[.slice v.A1 v.M1 v.D1, .slice v.A2 v.M2 v.D2, .slice v.A3 v.M3 v.D3]) = putL A0 (sl42 { v with b9 := true, y9 := .agg #[.slice v.A1 v.M1 v.D1, .slice v.A2 v.M2 v.D2, .slice v.A3 v.M3 v.D3] }) := put42_9 v { v with b9 := true, y9 := .agg #[.slice v.A1 v.M1 v.D1, .slice v.A2 v.M2 v.D2, .slice v.A3 v.M3 v.D3] } (.agg #[.slice v.A1 v.M1 v.D1, .slice v.A2 v.M2 v.D2, .slice v.A3 v.M3 v.D3]) (by rfl)
      exact wpOp_value (o := { dst := some 164, op := Op.extract (Operand.tmp 155) 1, type := 38, pos := pz, after := #[{ on := 7, ground := Ground.data }, { on := 14, ground := Ground.gcOnly Departure.lateStores }], guard := none }) (by kernel_rfl) rfl hrun (hK _ _ ⟨{ v with b9 := true, y9 := .agg #[.slice v.A1 v.M1 v.D1, .slice v.A2 v.M2 v.D2, .slice v.A3 v.M3 v.D3] }, rfl, hfr, ⟨HH.out.e0, HH.out.e2, HH.out.e4, HH.out.e7, HH.out.e8, (fun _ => rfl), HH.out.e10, HH.out.e11, HH.out.e12, HH.out.e13, HH.out.e16, HH.out.e17, (fun f => by have f' : v.b6 = false := f; rw [t6] at f'; cases f'), ⟨F.out.hB, F.out.p1, F.out.p3, F.out.p5, F.out.p6, F.out.p12, F.out.p13⟩⟩⟩)
    · have f10 : v.b10 = false := hb
      have t7 : v.b7 = true := ready_pre (o := { dst := some 165, op := Op.extract (Operand.tmp 155) 2, type := 3, pos := pz, after := #[{ on := 7, ground := Ground.data }, { on := 15, ground := Ground.gcOnly Departure.lateStores }], guard := none }) hi (by kernel_rfl) ⟨7, .data⟩ (by simp) rfl
      obtain ⟨u7, t6⟩ := HH.out.e7 t7
      have u6 := (F.out.p6 t6).1
      rw [u6] at u7
      have v0 := ev42_7 v hsz
      rw [u7] at v0
      have hrun := run42_10 (pz := pz) _ W _ _ _ _ v0
      have hfr : (putL A0 (sl42 v)).put (some 165) (.int .i64 R.did) = putL A0 (sl42 { v with b10 := true, y10 := .int .i64 R.did }) := put42_10 v { v with b10 := true, y10 := .int .i64 R.did } (.int .i64 R.did) (by rfl)
      exact wpOp_value (o := { dst := some 165, op := Op.extract (Operand.tmp 155) 2, type := 3, pos := pz, after := #[{ on := 7, ground := Ground.data }, { on := 15, ground := Ground.gcOnly Departure.lateStores }], guard := none }) (by kernel_rfl) rfl hrun (hK _ _ ⟨{ v with b10 := true, y10 := .int .i64 R.did }, rfl, hfr, ⟨HH.out.e0, HH.out.e2, HH.out.e4, HH.out.e7, HH.out.e8, HH.out.e9, (fun _ => rfl), HH.out.e11, HH.out.e12, HH.out.e13, HH.out.e16, HH.out.e17, (fun f => by have f' : v.b6 = false := f; rw [t6] at f'; cases f'), ⟨F.out.hB, F.out.p1, F.out.p3, F.out.p5, F.out.p6, F.out.p12, F.out.p13⟩⟩⟩)
    · have f11 : v.b11 = false := hb
      have t7 : v.b7 = true := ready_pre (o := { dst := some 166, op := Op.extract (Operand.tmp 155) 3, type := 3, pos := pz, after := #[{ on := 7, ground := Ground.data }, { on := 16, ground := Ground.gcOnly Departure.lateStores }], guard := none }) hi (by kernel_rfl) ⟨7, .data⟩ (by simp) rfl
      obtain ⟨u7, t6⟩ := HH.out.e7 t7
      have u6 := (F.out.p6 t6).1
      rw [u6] at u7
      have v0 := ev42_7 v hsz
      rw [u7] at v0
      have hrun := run42_11 (pz := pz) _ W _ _ _ _ v0
      have hfr : (putL A0 (sl42 v)).put (some 166) (.int .i64 R.num) = putL A0 (sl42 { v with b11 := true, y11 := .int .i64 R.num }) := put42_11 v { v with b11 := true, y11 := .int .i64 R.num } (.int .i64 R.num) (by rfl)
      exact wpOp_value (o := { dst := some 166, op := Op.extract (Operand.tmp 155) 3, type := 3, pos := pz, after := #[{ on := 7, ground := Ground.data }, { on := 16, ground := Ground.gcOnly Departure.lateStores }], guard := none }) (by kernel_rfl) rfl hrun (hK _ _ ⟨{ v with b11 := true, y11 := .int .i64 R.num }, rfl, hfr, ⟨HH.out.e0, HH.out.e2, HH.out.e4, HH.out.e7, HH.out.e8, HH.out.e9, HH.out.e10, (fun _ => rfl), HH.out.e12, HH.out.e13, HH.out.e16, HH.out.e17, (fun f => by have f' : v.b6 = false := f; rw [t6] at f'; cases f'), ⟨F.out.hB, F.out.p1, F.out.p3, F.out.p5, F.out.p6, F.out.p12, F.out.p13⟩⟩⟩)
    · have f12 : v.b12 = false := hb
      have hrun := run42_12 (pz := pz) (putL A0 (sl42 v)) W
      have hfr : (putL A0 (sl42 v)).put (some 22) (.pointer (some ⟨W.heap.size, 0, none⟩)) = putL A0 (sl42 { v with b12 := true, y12 := .pointer (some ⟨W.heap.size, 0, none⟩), G0 := W.heap.size }) := put42_12 v { v with b12 := true, y12 := .pointer (some ⟨W.heap.size, 0, none⟩), G0 := W.heap.size } (.pointer (some ⟨W.heap.size, 0, none⟩)) (by rfl)
      exact wpOp_value (o := { dst := some 22, op := Op.alloc 58, type := 0, pos := pz, after := #[], guard := none }) (by kernel_rfl) rfl hrun (hK _ _ ⟨{ v with b12 := true, y12 := .pointer (some ⟨W.heap.size, 0, none⟩), G0 := W.heap.size }, rfl, hfr, ⟨HH.out.e0, HH.out.e2, HH.out.e4, HH.out.e7, HH.out.e8, HH.out.e9, HH.out.e10, HH.out.e11, (fun f => by cases f), HH.out.e13, HH.out.e16, HH.out.e17, HH.out.e6, (F.out.at12 (HH.out.e12 f12) _ _)⟩⟩)
    · have f13 : v.b13 = false := hb
      have hrun := run42_13 (pz := pz) (putL A0 (sl42 v)) W
      have hfr : (putL A0 (sl42 v)).put (some 23) (.pointer (some ⟨W.heap.size, 0, none⟩)) = putL A0 (sl42 { v with b13 := true, y13 := .pointer (some ⟨W.heap.size, 0, none⟩), G1 := W.heap.size }) := put42_13 v { v with b13 := true, y13 := .pointer (some ⟨W.heap.size, 0, none⟩), G1 := W.heap.size } (.pointer (some ⟨W.heap.size, 0, none⟩)) (by rfl)
      exact wpOp_value (o := { dst := some 23, op := Op.alloc 38, type := 0, pos := pz, after := #[], guard := none }) (by kernel_rfl) rfl hrun (hK _ _ ⟨{ v with b13 := true, y13 := .pointer (some ⟨W.heap.size, 0, none⟩), G1 := W.heap.size }, rfl, hfr, ⟨HH.out.e0, HH.out.e2, HH.out.e4, HH.out.e7, HH.out.e8, HH.out.e9, HH.out.e10, HH.out.e11, HH.out.e12, (fun f => by cases f), HH.out.e16, HH.out.e17, HH.out.e6, (F.out.at13 (HH.out.e13 f13) _ _ _)⟩⟩)
    · have f14 : v.b14 = false := hb
      have t12 : v.b12 = true := ready_pre (o := { dst := none, op := Op.store 58 (Operand.tmp 22) (Operand.tmp 163), type := 0, pos := pz, after := #[{ on := 12, ground := Ground.data }, { on := 8, ground := Ground.data }, { on := 6, ground := Ground.chain }, { on := 0, ground := Ground.phase }, { on := 1, ground := Ground.phase }, { on := 2, ground := Ground.phase }, { on := 3, ground := Ground.phase }, { on := 4, ground := Ground.phase }, { on := 5, ground := Ground.phase }, { on := 6, ground := Ground.phase }, { on := 7, ground := Ground.phase }, { on := 8, ground := Ground.phase }, { on := 9, ground := Ground.textOnly Departure.lateStores }, { on := 10, ground := Ground.textOnly Departure.lateStores }, { on := 11, ground := Ground.textOnly Departure.lateStores }, { on := 12, ground := Ground.phase }, { on := 13, ground := Ground.phase }], guard := none }) hi (by kernel_rfl) ⟨12, .data⟩ (by simp) rfl
      have t8 : v.b8 = true := ready_pre (o := { dst := none, op := Op.store 58 (Operand.tmp 22) (Operand.tmp 163), type := 0, pos := pz, after := #[{ on := 12, ground := Ground.data }, { on := 8, ground := Ground.data }, { on := 6, ground := Ground.chain }, { on := 0, ground := Ground.phase }, { on := 1, ground := Ground.phase }, { on := 2, ground := Ground.phase }, { on := 3, ground := Ground.phase }, { on := 4, ground := Ground.phase }, { on := 5, ground := Ground.phase }, { on := 6, ground := Ground.phase }, { on := 7, ground := Ground.phase }, { on := 8, ground := Ground.phase }, { on := 9, ground := Ground.textOnly Departure.lateStores }, { on := 10, ground := Ground.textOnly Departure.lateStores }, { on := 11, ground := Ground.textOnly Departure.lateStores }, { on := 12, ground := Ground.phase }, { on := 13, ground := Ground.phase }], guard := none }) hi (by kernel_rfl) ⟨8, .data⟩ (by simp) rfl
      have t6 : v.b6 = true := ready_pre (o := { dst := none, op := Op.store 58 (Operand.tmp 22) (Operand.tmp 163), type := 0, pos := pz, after := #[{ on := 12, ground := Ground.data }, { on := 8, ground := Ground.data }, { on := 6, ground := Ground.chain }, { on := 0, ground := Ground.phase }, { on := 1, ground := Ground.phase }, { on := 2, ground := Ground.phase }, { on := 3, ground := Ground.phase }, { on := 4, ground := Ground.phase }, { on := 5, ground := Ground.phase }, { on := 6, ground := Ground.phase }, { on := 7, ground := Ground.phase }, { on := 8, ground := Ground.phase }, { on := 9, ground := Ground.textOnly Departure.lateStores }, { on := 10, ground := Ground.textOnly Departure.lateStores }, { on := 11, ground := Ground.textOnly Departure.lateStores }, { on := 12, ground := Ground.phase }, { on := 13, ground := Ground.phase }], guard := none }) hi (by kernel_rfl) ⟨6, .chain⟩ (by simp) rfl
      have t13 : v.b13 = true := ready_pre (o := { dst := none, op := Op.store 58 (Operand.tmp 22) (Operand.tmp 163), type := 0, pos := pz, after := #[{ on := 12, ground := Ground.data }, { on := 8, ground := Ground.data }, { on := 6, ground := Ground.chain }, { on := 0, ground := Ground.phase }, { on := 1, ground := Ground.phase }, { on := 2, ground := Ground.phase }, { on := 3, ground := Ground.phase }, { on := 4, ground := Ground.phase }, { on := 5, ground := Ground.phase }, { on := 6, ground := Ground.phase }, { on := 7, ground := Ground.phase }, { on := 8, ground := Ground.phase }, { on := 9, ground := Ground.textOnly Departure.lateStores }, { on := 10, ground := Ground.textOnly Departure.lateStores }, { on := 11, ground := Ground.textOnly Departure.lateStores }, { on := 12, ground := Ground.phase }, { on := 13, ground := Ground.phase }], guard := none }) hi (by kernel_rfl) ⟨13, .phase⟩ (by simp) rfl
      have u8 := HH.out.e8 t8
      obtain ⟨u12, _, c0, c1, k14, _⟩ := F.out.p12 t12
      have v0 := ev42_12 v hsz
      rw [u12] at v0
      have v1 := ev42_8 v hsz
      rw [u8] at v1
      have hrun := run42_14 (pz := pz) _ W v.G0 R.pc v.ca v.nr v.cc c0 c1 v0 v1 k14
      have hfr : (putL A0 (sl42 v)).put none undef = putL A0 (sl42 { v with b14 := true }) := same42 v { v with b14 := true } (by rfl)
      exact wpOp_skip (o := { dst := none, op := Op.store 58 (Operand.tmp 22) (Operand.tmp 163), type := 0, pos := pz, after := #[{ on := 12, ground := Ground.data }, { on := 8, ground := Ground.data }, { on := 6, ground := Ground.chain }, { on := 0, ground := Ground.phase }, { on := 1, ground := Ground.phase }, { on := 2, ground := Ground.phase }, { on := 3, ground := Ground.phase }, { on := 4, ground := Ground.phase }, { on := 5, ground := Ground.phase }, { on := 6, ground := Ground.phase }, { on := 7, ground := Ground.phase }, { on := 8, ground := Ground.phase }, { on := 9, ground := Ground.textOnly Departure.lateStores }, { on := 10, ground := Ground.textOnly Departure.lateStores }, { on := 11, ground := Ground.textOnly Departure.lateStores }, { on := 12, ground := Ground.phase }, { on := 13, ground := Ground.phase }], guard := none }) (by kernel_rfl) rfl hrun (hK _ _ ⟨{ v with b14 := true }, rfl, hfr, ⟨HH.out.e0, HH.out.e2, HH.out.e4, HH.out.e7, HH.out.e8, HH.out.e9, HH.out.e10, HH.out.e11, (fun f => by have f' : v.b12 = false := f; rw [t12] at f'; cases f'), HH.out.e13, HH.out.e16, HH.out.e17, (fun f => by have f' : v.b6 = false := f; rw [t6] at f'; cases f'), (F.out.at14 t6 t12 t13)⟩⟩)
    · have f15 : v.b15 = false := hb
      have t13 : v.b13 = true := ready_pre (o := { dst := none, op := Op.store 38 (Operand.tmp 23) (Operand.tmp 164), type := 0, pos := pz, after := #[{ on := 13, ground := Ground.data }, { on := 9, ground := Ground.data }, { on := 14, ground := Ground.chain }, { on := 0, ground := Ground.phase }, { on := 1, ground := Ground.phase }, { on := 2, ground := Ground.phase }, { on := 3, ground := Ground.phase }, { on := 4, ground := Ground.phase }, { on := 5, ground := Ground.phase }, { on := 6, ground := Ground.phase }, { on := 7, ground := Ground.phase }, { on := 8, ground := Ground.phase }, { on := 9, ground := Ground.phase }, { on := 10, ground := Ground.textOnly Departure.lateStores }, { on := 11, ground := Ground.textOnly Departure.lateStores }, { on := 12, ground := Ground.phase }, { on := 13, ground := Ground.phase }, { on := 14, ground := Ground.phase }], guard := none }) hi (by kernel_rfl) ⟨13, .data⟩ (by simp) rfl
      have t9 : v.b9 = true := ready_pre (o := { dst := none, op := Op.store 38 (Operand.tmp 23) (Operand.tmp 164), type := 0, pos := pz, after := #[{ on := 13, ground := Ground.data }, { on := 9, ground := Ground.data }, { on := 14, ground := Ground.chain }, { on := 0, ground := Ground.phase }, { on := 1, ground := Ground.phase }, { on := 2, ground := Ground.phase }, { on := 3, ground := Ground.phase }, { on := 4, ground := Ground.phase }, { on := 5, ground := Ground.phase }, { on := 6, ground := Ground.phase }, { on := 7, ground := Ground.phase }, { on := 8, ground := Ground.phase }, { on := 9, ground := Ground.phase }, { on := 10, ground := Ground.textOnly Departure.lateStores }, { on := 11, ground := Ground.textOnly Departure.lateStores }, { on := 12, ground := Ground.phase }, { on := 13, ground := Ground.phase }, { on := 14, ground := Ground.phase }], guard := none }) hi (by kernel_rfl) ⟨9, .data⟩ (by simp) rfl
      have t6 : v.b6 = true := ready_pre (o := { dst := none, op := Op.store 38 (Operand.tmp 23) (Operand.tmp 164), type := 0, pos := pz, after := #[{ on := 13, ground := Ground.data }, { on := 9, ground := Ground.data }, { on := 14, ground := Ground.chain }, { on := 0, ground := Ground.phase }, { on := 1, ground := Ground.phase }, { on := 2, ground := Ground.phase }, { on := 3, ground := Ground.phase }, { on := 4, ground := Ground.phase }, { on := 5, ground := Ground.phase }, { on := 6, ground := Ground.phase }, { on := 7, ground := Ground.phase }, { on := 8, ground := Ground.phase }, { on := 9, ground := Ground.phase }, { on := 10, ground := Ground.textOnly Departure.lateStores }, { on := 11, ground := Ground.textOnly Departure.lateStores }, { on := 12, ground := Ground.phase }, { on := 13, ground := Ground.phase }, { on := 14, ground := Ground.phase }], guard := none }) hi (by kernel_rfl) ⟨6, .phase⟩ (by simp) rfl
      have t12 : v.b12 = true := ready_pre (o := { dst := none, op := Op.store 38 (Operand.tmp 23) (Operand.tmp 164), type := 0, pos := pz, after := #[{ on := 13, ground := Ground.data }, { on := 9, ground := Ground.data }, { on := 14, ground := Ground.chain }, { on := 0, ground := Ground.phase }, { on := 1, ground := Ground.phase }, { on := 2, ground := Ground.phase }, { on := 3, ground := Ground.phase }, { on := 4, ground := Ground.phase }, { on := 5, ground := Ground.phase }, { on := 6, ground := Ground.phase }, { on := 7, ground := Ground.phase }, { on := 8, ground := Ground.phase }, { on := 9, ground := Ground.phase }, { on := 10, ground := Ground.textOnly Departure.lateStores }, { on := 11, ground := Ground.textOnly Departure.lateStores }, { on := 12, ground := Ground.phase }, { on := 13, ground := Ground.phase }, { on := 14, ground := Ground.phase }], guard := none }) hi (by kernel_rfl) ⟨12, .phase⟩ (by simp) rfl
      have u9 := HH.out.e9 t9
      obtain ⟨u13, _, c0, c1, c2, k15, _⟩ := F.out.p13 t13
      have v0 := ev42_13 v hsz
      rw [u13] at v0
      have v1 := ev42_9 v hsz
      rw [u9] at v1
      have hrun := run42_15 (pz := pz) _ W v.G1 v.A1 v.A2 v.A3 v.M1 v.D1 v.M2 v.D2 v.M3 v.D3 c0 c1 c2 v0 v1 k15
      have hfr : (putL A0 (sl42 v)).put none undef = putL A0 (sl42 { v with b15 := true }) := same42 v { v with b15 := true } (by rfl)
      exact wpOp_skip (o := { dst := none, op := Op.store 38 (Operand.tmp 23) (Operand.tmp 164), type := 0, pos := pz, after := #[{ on := 13, ground := Ground.data }, { on := 9, ground := Ground.data }, { on := 14, ground := Ground.chain }, { on := 0, ground := Ground.phase }, { on := 1, ground := Ground.phase }, { on := 2, ground := Ground.phase }, { on := 3, ground := Ground.phase }, { on := 4, ground := Ground.phase }, { on := 5, ground := Ground.phase }, { on := 6, ground := Ground.phase }, { on := 7, ground := Ground.phase }, { on := 8, ground := Ground.phase }, { on := 9, ground := Ground.phase }, { on := 10, ground := Ground.textOnly Departure.lateStores }, { on := 11, ground := Ground.textOnly Departure.lateStores }, { on := 12, ground := Ground.phase }, { on := 13, ground := Ground.phase }, { on := 14, ground := Ground.phase }], guard := none }) (by kernel_rfl) rfl hrun (hK _ _ ⟨{ v with b15 := true }, rfl, hfr, ⟨HH.out.e0, HH.out.e2, HH.out.e4, HH.out.e7, HH.out.e8, HH.out.e9, HH.out.e10, HH.out.e11, HH.out.e12, (fun f => by have f' : v.b13 = false := f; rw [t13] at f'; cases f'), HH.out.e16, HH.out.e17, (fun f => by have f' : v.b6 = false := f; rw [t6] at f'; cases f'), (F.out.at15 t6 t12 t13)⟩⟩)
    · have f16 : v.b16 = false := hb
      have t10 : v.b10 = true := ready_pre (o := { dst := some 24, op := Op.assign (Operand.tmp 165), type := 3, pos := pz, after := #[{ on := 10, ground := Ground.data }, { on := 15, ground := Ground.chain }, { on := 0, ground := Ground.phase }, { on := 1, ground := Ground.phase }, { on := 2, ground := Ground.phase }, { on := 3, ground := Ground.phase }, { on := 4, ground := Ground.phase }, { on := 5, ground := Ground.phase }, { on := 6, ground := Ground.phase }, { on := 7, ground := Ground.phase }, { on := 8, ground := Ground.phase }, { on := 9, ground := Ground.phase }, { on := 10, ground := Ground.phase }, { on := 11, ground := Ground.textOnly Departure.lateStores }, { on := 12, ground := Ground.phase }, { on := 13, ground := Ground.phase }, { on := 14, ground := Ground.phase }, { on := 15, ground := Ground.phase }], guard := none }) hi (by kernel_rfl) ⟨10, .data⟩ (by simp) rfl
      have u10 := HH.out.e10 t10
      have v0 := ev42_10 v hsz
      rw [u10] at v0
      have hrun := run42_16 (pz := pz) _ W _ v0
      have hfr : (putL A0 (sl42 v)).put (some 24) (.int .i64 R.did) = putL A0 (sl42 { v with b16 := true, y16 := .int .i64 R.did }) := put42_16 v { v with b16 := true, y16 := .int .i64 R.did } (.int .i64 R.did) (by rfl)
      exact wpOp_value (o := { dst := some 24, op := Op.assign (Operand.tmp 165), type := 3, pos := pz, after := #[{ on := 10, ground := Ground.data }, { on := 15, ground := Ground.chain }, { on := 0, ground := Ground.phase }, { on := 1, ground := Ground.phase }, { on := 2, ground := Ground.phase }, { on := 3, ground := Ground.phase }, { on := 4, ground := Ground.phase }, { on := 5, ground := Ground.phase }, { on := 6, ground := Ground.phase }, { on := 7, ground := Ground.phase }, { on := 8, ground := Ground.phase }, { on := 9, ground := Ground.phase }, { on := 10, ground := Ground.phase }, { on := 11, ground := Ground.textOnly Departure.lateStores }, { on := 12, ground := Ground.phase }, { on := 13, ground := Ground.phase }, { on := 14, ground := Ground.phase }, { on := 15, ground := Ground.phase }], guard := none }) (by kernel_rfl) rfl hrun (hK _ _ ⟨{ v with b16 := true, y16 := .int .i64 R.did }, rfl, hfr, ⟨HH.out.e0, HH.out.e2, HH.out.e4, HH.out.e7, HH.out.e8, HH.out.e9, HH.out.e10, HH.out.e11, HH.out.e12, HH.out.e13, (fun _ => rfl), HH.out.e17, HH.out.e6, ⟨F.out.hB, F.out.p1, F.out.p3, F.out.p5, F.out.p6, F.out.p12, F.out.p13⟩⟩⟩)
    · have f17 : v.b17 = false := hb
      have t11 : v.b11 = true := ready_pre (o := { dst := some 25, op := Op.assign (Operand.tmp 166), type := 3, pos := pz, after := #[{ on := 11, ground := Ground.data }, { on := 16, ground := Ground.chain }, { on := 0, ground := Ground.phase }, { on := 1, ground := Ground.phase }, { on := 2, ground := Ground.phase }, { on := 3, ground := Ground.phase }, { on := 4, ground := Ground.phase }, { on := 5, ground := Ground.phase }, { on := 6, ground := Ground.phase }, { on := 7, ground := Ground.phase }, { on := 8, ground := Ground.phase }, { on := 9, ground := Ground.phase }, { on := 10, ground := Ground.phase }, { on := 11, ground := Ground.phase }, { on := 12, ground := Ground.phase }, { on := 13, ground := Ground.phase }, { on := 14, ground := Ground.phase }, { on := 15, ground := Ground.phase }, { on := 16, ground := Ground.phase }], guard := none }) hi (by kernel_rfl) ⟨11, .data⟩ (by simp) rfl
      have u11 := HH.out.e11 t11
      have v0 := ev42_11 v hsz
      rw [u11] at v0
      have hrun := run42_17 (pz := pz) _ W _ v0
      have hfr : (putL A0 (sl42 v)).put (some 25) (.int .i64 R.num) = putL A0 (sl42 { v with b17 := true, y17 := .int .i64 R.num }) := put42_17 v { v with b17 := true, y17 := .int .i64 R.num } (.int .i64 R.num) (by rfl)
      exact wpOp_value (o := { dst := some 25, op := Op.assign (Operand.tmp 166), type := 3, pos := pz, after := #[{ on := 11, ground := Ground.data }, { on := 16, ground := Ground.chain }, { on := 0, ground := Ground.phase }, { on := 1, ground := Ground.phase }, { on := 2, ground := Ground.phase }, { on := 3, ground := Ground.phase }, { on := 4, ground := Ground.phase }, { on := 5, ground := Ground.phase }, { on := 6, ground := Ground.phase }, { on := 7, ground := Ground.phase }, { on := 8, ground := Ground.phase }, { on := 9, ground := Ground.phase }, { on := 10, ground := Ground.phase }, { on := 11, ground := Ground.phase }, { on := 12, ground := Ground.phase }, { on := 13, ground := Ground.phase }, { on := 14, ground := Ground.phase }, { on := 15, ground := Ground.phase }, { on := 16, ground := Ground.phase }], guard := none }) (by kernel_rfl) rfl hrun (hK _ _ ⟨{ v with b17 := true, y17 := .int .i64 R.num }, rfl, hfr, ⟨HH.out.e0, HH.out.e2, HH.out.e4, HH.out.e7, HH.out.e8, HH.out.e9, HH.out.e10, HH.out.e11, HH.out.e12, HH.out.e13, HH.out.e16, (fun _ => rfl), HH.out.e6, ⟨F.out.hB, F.out.p1, F.out.p3, F.out.p5, F.out.p6, F.out.p12, F.out.p13⟩⟩⟩)
  · intro listed a W hI hr
    obtain ⟨v, rfl, rfl, H⟩ := hI
    have t0 : v.b0 = true := ready_last hr 0 ({ dst := some 156, op := Op.load 52 (Operand.tmp 3), type := 52, pos := pz, after := #[], guard := none }) (by kernel_rfl) (by intro e he hbn; first | (simp at he; done) | (simp at he; rcases he with h <;> first | exact absurd hbn (by decide) ))
    have t2 : v.b2 = true := ready_last hr 2 ({ dst := some 158, op := Op.load 53 (Operand.tmp 4), type := 53, pos := pz, after := #[], guard := none }) (by kernel_rfl) (by intro e he hbn; first | (simp at he; done) | (simp at he; rcases he with h <;> first | exact absurd hbn (by decide) | exact t0 ))
    have t4 : v.b4 = true := ready_last hr 4 ({ dst := some 160, op := Op.move (Operand.tmp 2), type := 54, pos := pz, after := #[], guard := none }) (by kernel_rfl) (by intro e he hbn; first | (simp at he; done) | (simp at he; rcases he with h <;> first | exact absurd hbn (by decide) | exact t0 | exact t2 ))
    have t1 : v.b1 = true := ready_last hr 1 ({ dst := some 157, op := Op.call { callee := Callee.value (Operand.func 21), args := #[Operand.tmp 156], argTypes := #[52] }, type := 58, pos := pz, after := #[{ on := 0, ground := Ground.data }], guard := none }) (by kernel_rfl) (by intro e he hbn; first | (simp at he; done) | (simp at he; rcases he with rfl <;> first | exact absurd hbn (by decide) | exact t0 | exact t2 | exact t4 ))
    have t3 : v.b3 = true := ready_last hr 3 ({ dst := some 159, op := Op.call { callee := Callee.value (Operand.func 22), args := #[Operand.tmp 158], argTypes := #[53] }, type := 38, pos := pz, after := #[{ on := 2, ground := Ground.data }, { on := 1, ground := Ground.chain }], guard := none }) (by kernel_rfl) (by intro e he hbn; first | (simp at he; done) | (simp at he; rcases he with rfl | rfl <;> first | exact absurd hbn (by decide) | exact t0 | exact t2 | exact t4 | exact t1 ))
    have t5 : v.b5 = true := ready_last hr 5 ({ dst := some 161, op := Op.call { callee := Callee.value (Operand.func 23), args := #[Operand.tmp 160], argTypes := #[54] }, type := 63, pos := pz, after := #[{ on := 4, ground := Ground.data }, { on := 3, ground := Ground.chain }], guard := none }) (by kernel_rfl) (by intro e he hbn; first | (simp at he; done) | (simp at he; rcases he with rfl | rfl <;> first | exact absurd hbn (by decide) | exact t0 | exact t2 | exact t4 | exact t1 | exact t3 ))
    have t6 : v.b6 = true := ready_last hr 6 ({ dst := some 162, op := Op.call { callee := Callee.value (Operand.func 24), args := #[Operand.tmp 157, Operand.tmp 159, Operand.tmp 161], argTypes := #[58, 38, 63] }, type := 59, pos := pz, after := #[{ on := 1, ground := Ground.data }, { on := 3, ground := Ground.data }, { on := 5, ground := Ground.data }, { on := 5, ground := Ground.chain }], guard := none }) (by kernel_rfl) (by intro e he hbn; first | (simp at he; done) | (simp at he; rcases he with rfl | rfl | rfl | rfl <;> first | exact absurd hbn (by decide) | exact t0 | exact t2 | exact t4 | exact t1 | exact t3 | exact t5 ))
    have t7 : v.b7 = true := ready_last hr 7 ({ dst := some 155, op := Op.move (Operand.tmp 162), type := 59, pos := pz, after := #[{ on := 6, ground := Ground.data }], guard := none }) (by kernel_rfl) (by intro e he hbn; first | (simp at he; done) | (simp at he; rcases he with rfl <;> first | exact absurd hbn (by decide) | exact t0 | exact t2 | exact t4 | exact t1 | exact t3 | exact t5 | exact t6 ))
    have t8 : v.b8 = true := ready_last hr 8 ({ dst := some 163, op := Op.extract (Operand.tmp 155) 0, type := 58, pos := pz, after := #[{ on := 7, ground := Ground.data }], guard := none }) (by kernel_rfl) (by intro e he hbn; first | (simp at he; done) | (simp at he; rcases he with rfl <;> first | exact absurd hbn (by decide) | exact t0 | exact t2 | exact t4 | exact t1 | exact t3 | exact t5 | exact t6 | exact t7 ))
    have t9 : v.b9 = true := ready_last hr 9 ({ dst := some 164, op := Op.extract (Operand.tmp 155) 1, type := 38, pos := pz, after := #[{ on := 7, ground := Ground.data }, { on := 14, ground := Ground.gcOnly Departure.lateStores }], guard := none }) (by kernel_rfl) (by intro e he hbn; first | (simp at he; done) | (simp at he; rcases he with rfl | rfl <;> first | exact absurd hbn (by decide) | exact t0 | exact t2 | exact t4 | exact t1 | exact t3 | exact t5 | exact t6 | exact t7 | exact t8 ))
    have t10 : v.b10 = true := ready_last hr 10 ({ dst := some 165, op := Op.extract (Operand.tmp 155) 2, type := 3, pos := pz, after := #[{ on := 7, ground := Ground.data }, { on := 15, ground := Ground.gcOnly Departure.lateStores }], guard := none }) (by kernel_rfl) (by intro e he hbn; first | (simp at he; done) | (simp at he; rcases he with rfl | rfl <;> first | exact absurd hbn (by decide) | exact t0 | exact t2 | exact t4 | exact t1 | exact t3 | exact t5 | exact t6 | exact t7 | exact t8 | exact t9 ))
    have t11 : v.b11 = true := ready_last hr 11 ({ dst := some 166, op := Op.extract (Operand.tmp 155) 3, type := 3, pos := pz, after := #[{ on := 7, ground := Ground.data }, { on := 16, ground := Ground.gcOnly Departure.lateStores }], guard := none }) (by kernel_rfl) (by intro e he hbn; first | (simp at he; done) | (simp at he; rcases he with rfl | rfl <;> first | exact absurd hbn (by decide) | exact t0 | exact t2 | exact t4 | exact t1 | exact t3 | exact t5 | exact t6 | exact t7 | exact t8 | exact t9 | exact t10 ))
    have t12 : v.b12 = true := ready_last hr 12 ({ dst := some 22, op := Op.alloc 58, type := 0, pos := pz, after := #[], guard := none }) (by kernel_rfl) (by intro e he hbn; first | (simp at he; done) | (simp at he; rcases he with h <;> first | exact absurd hbn (by decide) | exact t0 | exact t2 | exact t4 | exact t1 | exact t3 | exact t5 | exact t6 | exact t7 | exact t8 | exact t9 | exact t10 | exact t11 ))
    have t13 : v.b13 = true := ready_last hr 13 ({ dst := some 23, op := Op.alloc 38, type := 0, pos := pz, after := #[], guard := none }) (by kernel_rfl) (by intro e he hbn; first | (simp at he; done) | (simp at he; rcases he with h <;> first | exact absurd hbn (by decide) | exact t0 | exact t2 | exact t4 | exact t1 | exact t3 | exact t5 | exact t6 | exact t7 | exact t8 | exact t9 | exact t10 | exact t11 | exact t12 ))
    have t14 : v.b14 = true := ready_last hr 14 ({ dst := none, op := Op.store 58 (Operand.tmp 22) (Operand.tmp 163), type := 0, pos := pz, after := #[{ on := 12, ground := Ground.data }, { on := 8, ground := Ground.data }, { on := 6, ground := Ground.chain }, { on := 0, ground := Ground.phase }, { on := 1, ground := Ground.phase }, { on := 2, ground := Ground.phase }, { on := 3, ground := Ground.phase }, { on := 4, ground := Ground.phase }, { on := 5, ground := Ground.phase }, { on := 6, ground := Ground.phase }, { on := 7, ground := Ground.phase }, { on := 8, ground := Ground.phase }, { on := 9, ground := Ground.textOnly Departure.lateStores }, { on := 10, ground := Ground.textOnly Departure.lateStores }, { on := 11, ground := Ground.textOnly Departure.lateStores }, { on := 12, ground := Ground.phase }, { on := 13, ground := Ground.phase }], guard := none }) (by kernel_rfl) (by intro e he hbn; first | (simp at he; done) | (simp at he; rcases he with rfl | rfl | rfl | rfl | rfl | rfl | rfl | rfl | rfl | rfl | rfl | rfl | rfl | rfl | rfl | rfl | rfl <;> first | exact absurd hbn (by decide) | exact t0 | exact t2 | exact t4 | exact t1 | exact t3 | exact t5 | exact t6 | exact t7 | exact t8 | exact t9 | exact t10 | exact t11 | exact t12 | exact t13 ))
    have t15 : v.b15 = true := ready_last hr 15 ({ dst := none, op := Op.store 38 (Operand.tmp 23) (Operand.tmp 164), type := 0, pos := pz, after := #[{ on := 13, ground := Ground.data }, { on := 9, ground := Ground.data }, { on := 14, ground := Ground.chain }, { on := 0, ground := Ground.phase }, { on := 1, ground := Ground.phase }, { on := 2, ground := Ground.phase }, { on := 3, ground := Ground.phase }, { on := 4, ground := Ground.phase }, { on := 5, ground := Ground.phase }, { on := 6, ground := Ground.phase }, { on := 7, ground := Ground.phase }, { on := 8, ground := Ground.phase }, { on := 9, ground := Ground.phase }, { on := 10, ground := Ground.textOnly Departure.lateStores }, { on := 11, ground := Ground.textOnly Departure.lateStores }, { on := 12, ground := Ground.phase }, { on := 13, ground := Ground.phase }, { on := 14, ground := Ground.phase }], guard := none }) (by kernel_rfl) (by intro e he hbn; first | (simp at he; done) | (simp at he; rcases he with rfl | rfl | rfl | rfl | rfl | rfl | rfl | rfl | rfl | rfl | rfl | rfl | rfl | rfl | rfl | rfl | rfl | rfl <;> first | exact absurd hbn (by decide) | exact t0 | exact t2 | exact t4 | exact t1 | exact t3 | exact t5 | exact t6 | exact t7 | exact t8 | exact t9 | exact t10 | exact t11 | exact t12 | exact t13 | exact t14 ))
    have t16 : v.b16 = true := ready_last hr 16 ({ dst := some 24, op := Op.assign (Operand.tmp 165), type := 3, pos := pz, after := #[{ on := 10, ground := Ground.data }, { on := 15, ground := Ground.chain }, { on := 0, ground := Ground.phase }, { on := 1, ground := Ground.phase }, { on := 2, ground := Ground.phase }, { on := 3, ground := Ground.phase }, { on := 4, ground := Ground.phase }, { on := 5, ground := Ground.phase }, { on := 6, ground := Ground.phase }, { on := 7, ground := Ground.phase }, { on := 8, ground := Ground.phase }, { on := 9, ground := Ground.phase }, { on := 10, ground := Ground.phase }, { on := 11, ground := Ground.textOnly Departure.lateStores }, { on := 12, ground := Ground.phase }, { on := 13, ground := Ground.phase }, { on := 14, ground := Ground.phase }, { on := 15, ground := Ground.phase }], guard := none }) (by kernel_rfl) (by intro e he hbn; first | (simp at he; done) | (simp at he; rcases he with rfl | rfl | rfl | rfl | rfl | rfl | rfl | rfl | rfl | rfl | rfl | rfl | rfl | rfl | rfl | rfl | rfl | rfl <;> first | exact absurd hbn (by decide) | exact t0 | exact t2 | exact t4 | exact t1 | exact t3 | exact t5 | exact t6 | exact t7 | exact t8 | exact t9 | exact t10 | exact t11 | exact t12 | exact t13 | exact t14 | exact t15 ))
    have t17 : v.b17 = true := ready_last hr 17 ({ dst := some 25, op := Op.assign (Operand.tmp 166), type := 3, pos := pz, after := #[{ on := 11, ground := Ground.data }, { on := 16, ground := Ground.chain }, { on := 0, ground := Ground.phase }, { on := 1, ground := Ground.phase }, { on := 2, ground := Ground.phase }, { on := 3, ground := Ground.phase }, { on := 4, ground := Ground.phase }, { on := 5, ground := Ground.phase }, { on := 6, ground := Ground.phase }, { on := 7, ground := Ground.phase }, { on := 8, ground := Ground.phase }, { on := 9, ground := Ground.phase }, { on := 10, ground := Ground.phase }, { on := 11, ground := Ground.phase }, { on := 12, ground := Ground.phase }, { on := 13, ground := Ground.phase }, { on := 14, ground := Ground.phase }, { on := 15, ground := Ground.phase }, { on := 16, ground := Ground.phase }], guard := none }) (by kernel_rfl) (by intro e he hbn; first | (simp at he; done) | (simp at he; rcases he with rfl | rfl | rfl | rfl | rfl | rfl | rfl | rfl | rfl | rfl | rfl | rfl | rfl | rfl | rfl | rfl | rfl | rfl | rfl <;> first | exact absurd hbn (by decide) | exact t0 | exact t2 | exact t4 | exact t1 | exact t3 | exact t5 | exact t6 | exact t7 | exact t8 | exact t9 | exact t10 | exact t11 | exact t12 | exact t13 | exact t14 | exact t15 | exact t16 ))
    obtain ⟨_, ho, hm⟩ := H.F.p6 t6
    obtain ⟨u12, l0, c0, c1, k0, f0⟩ := H.F.p12 t12
    obtain ⟨u13, l1, d0, d1, d2, k1, f1⟩ := H.F.p13 t13
    obtain ⟨rfl, rfl⟩ := f0 t14
    obtain ⟨rfl, rfl, rfl⟩ := f1 t15
    have key := HEND.out v.y0 v.y1 v.y2 v.y3 v.y4 v.y5 v.y6 v.y7 v.y8 v.y9 v.y10 v.y11 v.ca v.nr v.cc v.A1 v.M1 v.D1 v.A2 v.M2 v.D2 v.A3 v.M3 v.D3 v.G0 v.G1 W H.F.hB ho hm l0 l1 k0 k1
    rw [← u12, ← u13, ← H.e16 t16, ← H.e17 t17] at key
    exact key
end Go.Proofs.YtngdgogjlpjjpadGreat

namespace Go.Proofs.YtngdgogjlpjjpadGreat
open Go.RowKit
set_option linter.unusedVariables false

set_option maxHeartbeats 1000000 in
theorem eqRegion_same (b l o : Int) (r x y : Bool) (w : World) :
    Calls Tryz.prog 102 #[.agg #[.int .i64 b, .int .i64 l, .int .i64 o, .bool r, .bool x, .bool y], .agg #[.int .i64 b, .int .i64 l, .int .i64 o, .bool r, .bool x, .bool y]] w fun e w' => e = .returned (.bool true) ∧ Below w.heap.size w w' := by
  have e1 : (b != b) = false := by simp
  have e2 : (l != l) = false := by simp
  have e3 : (o != o) = false := by simp
  have e4 : (r != r) = false := by simp
  have e5 : (x != x) = false := by simp
  have e6 : (y != y) = false := by simp
  go_enter Tryz.func102, Tryz.ntmps102
  go_wp2
  go_ret
  exact ⟨rfl, ((Below.refl _ _).alloc (Nat.le_refl _) _).alloc (by simp) _⟩

set_option maxHeartbeats 2000000 in
theorem eqRegionS_same (x x' : Option Addr) (n cap cap' : Nat) (rs : List Rg) (w : World) (h : RS w x n cap rs) (h' : RS w x' n cap' rs) :
    Calls Tryz.prog 27 #[.slice x n cap, .slice x' n cap'] w fun e w' => e = .returned (.bool true) ∧ Below w.heap.size w w' := by
  have hl := h.1
  have hmx := h.2.1
  unfold maxLen at hmx
  have hne : ((n : Int) != (n : Int)) = false := by simp
  go_enter Tryz.func27, Tryz.ntmps27
  go_wp2
  go_loopw [5] (fun i wr => ∃ k : Nat, k ≤ n ∧ i = .int .i64 k ∧ Below w.heap.size w wr) (fun i _ => n - (intOf i).toNat)
  case atStart => exact ⟨0, Nat.zero_le _, rfl, Below.refl _ _⟩
  case round =>
    obtain ⟨k, hk, rfl, hB⟩ := hrel
    by_cases hlt : k < n
    · have hlt' : (k : Int) < (n : Int) := by omega
      obtain ⟨b, off, rfl⟩ := h.some (by omega)
      obtain ⟨b', off', rfl⟩ := h'.some (by omega)
      have hat := (h.below hB).at k hlt
      have hat' := (h'.below hB).at k hlt
      generalize rs.getD k z6 = r at *
      obtain ⟨g1, g2, g3, g4, g5, g6⟩ := r
      have q1 := hat.1
      have q2 := hat.2.1
      have q3 := hat.2.2.1
      have q4 := hat.2.2.2.1
      have q5 := hat.2.2.2.2.1
      have q6 := hat.2.2.2.2.2
      have p1 := hat'.1
      have p2 := hat'.2.1
      have p3 := hat'.2.2.1
      have p4 := hat'.2.2.2.1
      have p5 := hat'.2.2.2.2.1
      have p6 := hat'.2.2.2.2.2
      simp only at q1 q2 q3 q4 q5 q6 p1 p2 p3 p4 p5 p6
      clear hat hat'
      go_wp2
      go_region_held3 (fun w' => w'.cell? ⟨b, off + k * 6, none⟩ = some (.int .i64 g1) ∧ w'.cell? ⟨b, off + k * 6 + 1, none⟩ = some (.int .i64 g2) ∧ w'.cell? ⟨b, off + k * 6 + 2, none⟩ = some (.int .i64 g3) ∧ w'.cell? ⟨b, off + k * 6 + 3, none⟩ = some (.bool g4) ∧ w'.cell? ⟨b, off + k * 6 + 4, none⟩ = some (.bool g5) ∧ w'.cell? ⟨b, off + k * 6 + 5, none⟩ = some (.bool g6) ∧
          w'.cell? ⟨b', off' + k * 6, none⟩ = some (.int .i64 g1) ∧ w'.cell? ⟨b', off' + k * 6 + 1, none⟩ = some (.int .i64 g2) ∧ w'.cell? ⟨b', off' + k * 6 + 2, none⟩ = some (.int .i64 g3) ∧ w'.cell? ⟨b', off' + k * 6 + 3, none⟩ = some (.bool g4) ∧ w'.cell? ⟨b', off' + k * 6 + 4, none⟩ = some (.bool g5) ∧ w'.cell? ⟨b', off' + k * 6 + 5, none⟩ = some (.bool g6)) (go_keep)
        (first
          | (go_at_call 102; refine (eqRegion_same g1 g2 g3 g4 g5 g6 _).mono ?_; rintro e w1 ⟨rfl, hb1⟩; replace hb1 := undrew hb1; obtain ⟨hc1, hf1⟩ := bcell hb1; have hlb := World.block_lt_of_cell? _ _ q1; have hlb' := World.block_lt_of_cell? _ _ p1))
      clear hc1 hf1 q1 q2 q3 q4 q5 q6 p1 p2 p3 p4 p5 p6
      go_wp2
      go_roundw
      case rel => exact ⟨k + 1, by omega, by go_num, hB.trans (hb1.mono hB.size)⟩
      case measure => simp [intOf]; omega
    · go_wp2
      go_ret
      exact ⟨rfl, hB⟩
end Go.Proofs.YtngdgogjlpjjpadGreat

namespace Go.Proofs.YtngdgogjlpjjpadGreat
open Go.RowKit
set_option linter.unusedVariables false

/-- a row of regions at the head of block g -/
def RowW (w : World) (g : Nat) (rs : List Rg) : Prop :=
  (∃ cur, Blk w g cur 135) ∧ ∀ i, i < rs.length → At6 w g (i * 6) (rs.getD i z6)
theorem RowW.frozen {w : World} {g : Nat} {rs : List Rg} (h : RowW w g rs) (i : Nat) : w.frozen? ⟨g, i, none⟩ = false := by obtain ⟨⟨cur, hb⟩, _⟩ := h; exact hb.frozen i
theorem RowW.set {w : World} {g : Nat} {rs : List Rg} (h : RowW w g rs) (i : Nat) (hi : i < rs.length) (r : Rg) : RowW (set6 w g (i * 6) r) g (rs.set i r) := by
  obtain ⟨⟨cur, hc⟩, hr⟩ := h
  obtain ⟨cur', hc', hs'⟩ := set6_blk hc (i * 6) r
  refine ⟨⟨cur', hc'⟩, fun j hj => ?_⟩
  rw [List.length_set] at hj
  by_cases e : i = j
  · subst e
    have : (rs.set i r).getD i z6 = r := by simp [List.getD_eq_getElem?_getD, hi]
    rw [this]
    exact set6_at (hr i hi) r
  · have : (rs.set i r).getD j z6 = rs.getD j z6 := by simp [List.getD_eq_getElem?_getD, e]
    rw [this]
    exact set6_far (hr j hj) r (by omega)
theorem set6_turn (w : World) (g o : Nat) (r : Rg) : Turn (fun j => j = g) w (set6 w g o r) := by
  have step : ∀ (w : World) (o : Nat) (v : Value), Turn (fun j => j = g) w (w.setCell ⟨g, o, none⟩ v) := fun w o v =>
    ⟨rfl, rfl, rfl, by rw [size_setCell]; exact Nat.le_refl _, fun j hj hs => heap_setCell_other _ _ _ _ hs⟩
  unfold set6
  exact (((((step _ _ _).trans (step _ _ _)).trans (step _ _ _)).trans (step _ _ _)).trans (step _ _ _)).trans (step _ _ _)
theorem or_roww {w : World} {base n cap g : Nat} {rs : List Rg} (h : OR w base (.slice (some ⟨g, 0, none⟩) n cap) rs) (hn : n ≠ 0) : RowW w g rs := by
  have hr := or_rs h
  have hl := hr.1
  obtain ⟨_, ⟨h0, h0'⟩ | ⟨g', cap', cur, hv, hg, hh, h1, h2, h3, h4⟩⟩ := h.1
  · simp at h0
  · simp at hv
    obtain ⟨rfl, _⟩ := hv
    exact ⟨⟨cur, hh⟩, fun i hi => by have := hr.at i (by omega); rw [Nat.zero_add] at this; exact this⟩

theorem turn_or' {S : Nat → Prop} {base : Nat} {w w' : World} {v : Value} {rs : List Rg} (t : Turn S w w') (h : OR w base v rs) (hk : ∀ k, v.ownBlock = some k → ¬ S k) : OR w' base v rs := by
  refine ⟨?_, h.2⟩
  obtain ⟨hl, h0 | ⟨g', cap, cur, rfl, hg, hh, h1, h2, h3, h4⟩⟩ := h.1
  · exact ⟨hl, .inl h0⟩
  · exact ⟨hl, .inr ⟨g', cap, cur, rfl, hg, turn_blk t hh (hk g' rfl), h1, h2, h3, h4⟩⟩
theorem or_lt {base : Nat} {w : World} {v : Value} {rs : List Rg} (h : OR w base v rs) (k : Nat) (hk : v.ownBlock = some k) : k < w.heap.size := by
  obtain ⟨hl, ⟨rfl, h0⟩ | ⟨g', cap, cur, rfl, hg, hh, h1, h2, h3, h4⟩⟩ := h.1
  · cases hk
  · have e : some g' = some k := hk
    injection e with e
    subst e
    exact Blk.lt (w := w) hh

end Go.Proofs.YtngdgogjlpjjpadGreat

namespace Go.Proofs.YtngdgogjlpjjpadGreat
open Go.RowKit
set_option linter.unusedVariables false

/-- the mark of a region: three numbers and three bits that follow k -/
def mk6 (k : Int) : Rg := (k, k + 1, k + 1 + 1, ((k + 1 + 1 + 1) % 3 == 0), ((k + 1 + 1 + 1 + 1) % 3 == 0), ((k + 1 + 1 + 1 + 1 + 1) % 3 == 0))
def marksR (k n : Nat) : List Rg := (List.range n).map fun i => mk6 ((k + 6 * i : Nat) : Int)
theorem marksR_len (k n : Nat) : (marksR k n).length = n := by simp [marksR]
theorem marksR_getD (k n m : Nat) (h : m < n) : (marksR k n).getD m z6 = mk6 ((k + 6 * m : Nat) : Int) := by simp [marksR, List.getD_eq_getElem?_getD, h]
def mixR (rs : List Rg) (k m : Nat) : List Rg := (List.range rs.length).map fun i => if i < m then mk6 ((k + 6 * i : Nat) : Int) else rs.getD i z6
theorem mixR_zero (rs : List Rg) (k : Nat) : mixR rs k 0 = rs := by
  apply List.ext_getElem
  · simp [mixR]
  · intro i h1 h2; simp [mixR, h2]
theorem mixR_all (rs : List Rg) (k : Nat) : mixR rs k rs.length = marksR k rs.length := by
  apply List.ext_getElem
  · simp [mixR, marksR]
  · intro i h1 h2
    simp [marksR] at h2
    simp [mixR, marksR, h2]
theorem mixR_len (rs : List Rg) (k m : Nat) : (mixR rs k m).length = rs.length := by simp [mixR]
theorem mixR_set (rs : List Rg) (k m : Nat) (h : m < rs.length) : (mixR rs k m).set m (mk6 ((k + 6 * m : Nat) : Int)) = mixR rs k (m + 1) := by
  apply List.ext_getElem
  · simp [mixR]
  · intro i h1 h2
    simp only [mixR, List.getElem_set, List.getElem_map, List.getElem_range]
    by_cases hik : m = i
    · subst hik; simp
    · by_cases h3 : i < m
      · simp [hik, h3, show i < m + 1 by omega]
      · simp [hik, h3, show ¬ i < m + 1 by omega]

set_option maxHeartbeats 1000000 in
theorem markRegionS_some (g n cap : Nat) (rs : List Rg) (k : Nat) (w : World) (hl : rs.length = n) (h : RowW w g rs) (hn : n ≤ 2097152) (hk : k ≤ 4194304) :
    Calls Tryz.prog 30 #[.slice (some ⟨g, 0, none⟩) n cap, .int .i64 k] w fun e w' => e = .returned (.int .i64 ((k + 6 * n : Nat) : Int)) ∧ RowW w' g (marksR k n) ∧ Turn (fun j => j = g) w w' := by
  go_enter Tryz.func30, Tryz.ntmps30
  go_wp2
  go_loopw [1, 5] (fun x i wr => ∃ m : Nat, m ≤ n ∧ i = .int .i64 m ∧ x = .int .i64 ((k + 6 * m : Nat) : Int) ∧ RowW wr g (mixR rs k m) ∧ Turn (fun j => j = g) w wr) (fun _ i _ => n - (intOf i).toNat)
  case atStart => exact ⟨0, Nat.zero_le _, rfl, rfl, by rw [mixR_zero]; exact h, Turn.refl _ _⟩
  case round =>
    obtain ⟨m, hm, rfl, rfl, hO, hT⟩ := hrel
    by_cases hlt : m < n
    · have hlt' : (m : Int) < (n : Int) := by omega
      obtain ⟨p1, p2, p3, p4, p5, p6⟩ := hO.2 m (by rw [mixR_len]; omega)
      have hf := hO.frozen
      have hset := hO.set m (by rw [mixR_len]; omega) (mk6 ((k + 6 * m : Nat) : Int))
      rw [mixR_set rs k m (by omega)] at hset
      have hT2 := hT.trans (set6_turn wr g (m * 6) (mk6 ((k + 6 * m : Nat) : Int)))
      have HO := hide hset
      have HT := hide hT2
      clear hset hT2 hO hT
      obtain ⟨K, hK⟩ : ∃ K : Int, K = ((k + 6 * m : Nat) : Int) := ⟨_, rfl⟩
      have hK0 : 0 ≤ K := by omega
      have hK1 : K ≤ 33554432 := by omega
      have HK := hide (show K + 1 + 1 + 1 + 1 + 1 + 1 = ((k + 6 * (m + 1) : Nat) : Int) by omega)
      rw [← hK] at HO HT ⊢
      clear hK
      go_wp2
      go_roundw
      case rel => exact ⟨m + 1, by omega, by go_num, by rw [HK.out], HO.out, HT.out⟩
      case measure => simp [intOf]; omega
    · have e : Hid (m = n) := by show m = n; omega
      go_wp2
      go_ret
      exact ⟨ret_int (by rw [e.out]), by rw [e.out, ← hl, mixR_all] at hO; rw [hl] at hO; exact hO, hT⟩

set_option maxHeartbeats 1000000 in
theorem markRegionS_zero (a : Option Addr) (cap k : Nat) (w : World) :
    Calls Tryz.prog 30 #[.slice a 0 cap, .int .i64 k] w fun e w' => e = .returned (.int .i64 k) ∧ w = w' := by
  go_enter Tryz.func30, Tryz.ntmps30
  go_wp2
  go_loop [1, 5] (fun x i => i = .int .i64 0 ∧ x = .int .i64 k) (fun _ _ => 0)
  case atStart => exact ⟨rfl, rfl⟩
  case round =>
    obtain ⟨rfl, rfl⟩ := hrel
    go_wp2
    go_ret
    exact ⟨rfl, rfl⟩

theorem markRegionS_any (a : Option Addr) (n cap base : Nat) (rs : List Rg) (k : Nat) (w : World) (h : OR w base (.slice a n cap) rs) (hn : n ≤ 2097152) (hk : k ≤ 4194304) :
    Calls Tryz.prog 30 #[.slice a n cap, .int .i64 k] w fun e w' => e = .returned (.int .i64 ((k + 6 * n : Nat) : Int)) ∧ RS w' a n cap (marksR k n) ∧ Turn (fun j => base ≤ j ∧ (Value.slice a n cap).ownBlock = some j) w w' := by
  have hr := or_rs h
  have hmx : n ≤ cap := hr.2.2.2.2
  have hml : n ≤ maxLen := hr.2.1
  have hwf : ∀ g ∈ marksR k n, wfi g.1 ∧ wfi g.2.1 ∧ wfi g.2.2.1 := by
    intro g hg
    simp [marksR] at hg
    obtain ⟨i, hi, rfl⟩ := hg
    simp only [mk6, wfi]
    omega
  by_cases h0 : n = 0
  · subst h0
    refine (markRegionS_zero a cap k w).mono fun e w' he => ?_
    obtain ⟨rfl, rfl⟩ := he
    exact ⟨rfl, ⟨rfl, hml, hwf, fun h => absurd rfl h, hmx⟩, Turn.refl _ _⟩
  · obtain ⟨g, rfl, hg⟩ : ∃ g, a = some ⟨g, 0, none⟩ ∧ base ≤ g := by
      obtain ⟨hl, ⟨h0', _⟩ | ⟨g, cap', cur, hv, hg, _⟩⟩ := h.1
      · simp at h0'; exact absurd h0'.2.1 h0
      · simp at hv; exact ⟨g, hv.1, hg⟩
    refine (markRegionS_some g n cap rs k w hr.1 (or_roww h h0) hn hk).mono fun e w' he => ⟨he.1, ⟨marksR_len k n, hml, hwf, fun _ => ⟨g, 0, rfl, fun i hi => ?_⟩, hmx⟩, he.2.2.mono ?_⟩
    · rw [Nat.zero_add]; exact he.2.1.2 i (by rw [marksR_len]; exact hi)
    · intro j hj
      subst hj
      exact ⟨hg, rfl⟩
end Go.Proofs.YtngdgogjlpjjpadGreat
