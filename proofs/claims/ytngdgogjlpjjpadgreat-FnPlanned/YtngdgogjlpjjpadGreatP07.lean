import Derived.Test.YtngdgogjlpjjpadGreatP01
import Derived.Test.YtngdgogjlpjjpadGreatP06
namespace Go.Proofs.YtngdgogjlpjjpadGreat
open Go.RowKit
set_option linter.unusedVariables false
theorem wraps62 (n:Int) (h₀:0≤n) (h₁:n<2 ^ 62):IntKind.i64.wrap n=n:=by
 rw [IntKind.wrap_i64];omega
set_option maxHeartbeats 400000 in
theorem isWord_any (v:Int) (w:World):
 Calls Tryz.prog 168 #[.int .i64 v] w fun e w'=>e=.returned (.bool (decide (0≤v∧v≤4294967295)))∧w=w':=by
 go_enter Tryz.func168,Tryz.ntmps168
 go_wp2
 all_goals
  go_ret
  refine ⟨ret_bool ?_,rfl⟩
  rw [Bool.eq_iff_iff]
  simp
  try omega
set_option maxHeartbeats 400000 in
theorem isUpTo_any (v m:Int) (w:World):
 Calls Tryz.prog 63 #[.int .i64 v,.int .i64 m] w fun e w'=>e=.returned (.bool (decide (0≤v∧v≤m)))∧w=w':=by
 go_enter Tryz.func63,Tryz.ntmps63
 go_wp2
 all_goals
  go_ret
  refine ⟨ret_bool ?_,rfl⟩
  rw [Bool.eq_iff_iff]
  simp
  try omega
theorem Blk.four' {w:World} {g:Nat} {a b c d:Value} {t:TypeId} (h:Blk w g #[a,b,c,d] t):
 w.cell? ⟨g,0,none⟩=some a∧w.cell? ⟨g,1,none⟩=some b∧w.cell? ⟨g,2,none⟩=some c∧w.cell? ⟨g,3,none⟩=some d∧∀ i,w.frozen? ⟨g,i,none⟩=false:=
 ⟨by rw [h.cell];rfl,by rw [h.cell];rfl,by rw [h.cell];rfl,by rw [h.cell];rfl,fun i=>h.frozen i⟩
theorem ins_set {w2:World} {g:Nat} {x y z u:Value} (hz:Blk w2 g #[x,y,z,u] 124) (o d a i:Int):
 Blk ((((w2.setCell ⟨g,0,none⟩ (.int .i64 o)).setCell ⟨g,1,none⟩ (.int .i64 d)).setCell ⟨g,2,none⟩ (.int .i64 a)).setCell ⟨g,3,none⟩ (.int .i64 i)) g #[.int .i64 o,.int .i64 d,.int .i64 a,.int .i64 i] 124:=
 Blk.set (Blk.set (Blk.set (Blk.set hz 0 _) 1 _) 2 _) 3 _
theorem okI_bounds {op d a i:Int} (h:okI op d a i=true):1≤op∧op≤25∧0≤d∧d≤7∧0≤a∧a≤7∧0≤i∧i≤65535:=by
 unfold okI okU at h
 simp at h
 obtain ⟨h0,h1,h2,h3,h4,h5,h6⟩:=h
 have hx:mD (us op)≤7:=by unfold mD;split <;> omega
 have hy:mA (us op)≤7:=by unfold mA;split <;> omega
 have hz:mI (us op)≤65535:=by unfold mI;split <;> omega
 by_cases ho:op≤0∨26≤op
 ·rw [us_out op ho] at h0
  omega
 ·omega
def enc (op d a i:Int):Int:=op * 67108864+d * 8388608+a * 1048576+i
def encV (op d a i:Int):Int:=if okI op d a i then enc op d a i else 0
set_option maxHeartbeats 1000000 in
theorem sEncode_any (op d a i:Int) (w:World):
 Calls Tryz.prog 257 #[.agg #[.int .i64 op,.int .i64 d,.int .i64 a,.int .i64 i]] w fun e w'=>e=.returned (.tuple #[.int .i64 (encV op d a i),.bool (okI op d a i)])∧Below w.heap.size w w':=by
 have kb:=Blk.new w #[.int .i64 op,.int .i64 d,.int .i64 a,.int .i64 i] 124
 have hB0:Below w.heap.size w (w.alloc (.cells #[.int .i64 op,.int .i64 d,.int .i64 a,.int .i64 i] 124)):=(Below.refl _ _).alloc (Nat.le_refl _) _
 have HI:=hide (l3InsOk_any op d a i)
 unfold encV
 cases hk:okI op d a i
 ·rw [hk] at HI
  clear hk
  rw [if_neg (by simp)]
  go_enter Tryz.func257,Tryz.ntmps257
  go_wp2_with fail
  refine (HI.out _).mono ?_
  rintro e w1 ⟨rfl,hb1⟩
  go_wp2
  go_ret2
  exact ⟨rfl,hB0.trans (hb1.mono (by simp))⟩
 ·obtain ⟨h1,h2,h3,h4,h5,h6,h7,h8⟩:=okI_bounds hk
  rw [hk] at HI
  clear hk
  rw [if_pos rfl]
  unfold enc
  go_enter Tryz.func257,Tryz.ntmps257
  go_wp2_with fail
  refine (HI.out _).mono ?_
  rintro e w1 ⟨rfl,hb1⟩
  obtain ⟨p1,p2,p3,p4,p5⟩:=(kb.below hb1).four'
  go_wp2
  go_ret2
  exact ⟨rfl,hB0.trans (hb1.mono (by simp))⟩
end Go.Proofs.YtngdgogjlpjjpadGreat
