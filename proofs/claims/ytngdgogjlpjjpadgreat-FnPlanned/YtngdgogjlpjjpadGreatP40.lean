import Derived.Test.YtngdgogjlpjjpadGreatP39
namespace Go.Proofs.YtngdgogjlpjjpadGreat
open Go.RowKit
set_option linter.unusedVariables false
set_option linter.unusedSimpArgs false
set_option maxRecDepth 100000
def st4 (W:World) (k:Nat) (v0 v1 v2 v3:Value):World:=(((W.setCell ⟨k,0,none⟩ v0).setCell ⟨k,1,none⟩ v1).setCell ⟨k,2,none⟩ v2).setCell ⟨k,3,none⟩ v3
theorem turn_st4 (W:World) (k:Nat) (v0 v1 v2 v3:Value):Turn (fun j=>j=k) W (st4 W k v0 v1 v2 v3):=(((turn_set W k 0 v0).trans (turn_set _ k 1 v1)).trans (turn_set _ k 2 v2)).trans (turn_set _ k 3 v3)
theorem blk_st4 {W:World} {k:Nat} {t:TypeId} {z0 z1 z2 z3:Value} (h:Blk W k #[z0,z1,z2,z3] t) (v0 v1 v2 v3:Value):Blk (st4 W k v0 v1 v2 v3) k #[v0,v1,v2,v3] t:=by
 have k:=(((h.set 0 v0).set 1 v1).set 2 v2).set 3 v3
 have e:(((#[z0,z1,z2,z3].setIfInBounds 0 v0).setIfInBounds 1 v1).setIfInBounds 2 v2).setIfInBounds 3 v3=#[v0,v1,v2,v3]:=by simp
 rw [e] at k
 exact k
theorem Blk.cfr {W:World} {g:Nat} {v0 v1 v2 v3:Value} {t:TypeId} (h:Blk W g #[v0,v1,v2,v3] t):(W.cell? ⟨g,0,none⟩=some v0∧W.cell? ⟨g,1,none⟩=some v1∧W.cell? ⟨g,2,none⟩=some v2∧W.cell? ⟨g,3,none⟩=some v3)∧W.frozen? ⟨g,0,none⟩=false∧W.frozen? ⟨g,1,none⟩=false∧W.frozen? ⟨g,2,none⟩=false∧W.frozen? ⟨g,3,none⟩=false:=
 ⟨⟨h.cell 0,h.cell 1,h.cell 2,h.cell 3⟩,h.frozen 0,h.frozen 1,h.frozen 2,h.frozen 3⟩
def CfP (w:World) (r:Nat) (a:Option Addr) (n c:Nat) (zs:List Int) (e:Ending) (w':World):Prop:=∃ (x1 x2 x3 x4:Int) (k':Nat),((-2000≤x1∧x1≤2000)∧(-2000≤x2∧x2≤2000)∧(-2000≤x3∧x3≤2000)∧-2000≤x4∧x4≤2000)∧e=.returned (.agg #[.int .i64 x1,.int .i64 x2,.int .i64 x3,.int .i64 x4])∧Dst w w' r a n c zs k'
theorem cf_end {W:World} {q:Nat} {z0 z1 z2 z3:Value} (k1:Blk W q #[z0,z1,z2,z3] 25) (v0 v1 v2 v3:Value) (Q:Ending→World→Prop) (tmps:Array Value) (h4:tmps[2]?=some (.pointer (some ⟨q,0,none⟩))) (hQ:Q (.returned (.agg #[v0,v1,v2,v3])) (st4 W q v0 v1 v2 v3)):
 bodyPost Tryz.prog Tryz.f138 Q Exit.ret ⟨tmps,[]⟩ (st4 W q v0 v1 v2 v3):=by
 obtain ⟨⟨t0,t1,t2,t3⟩,_⟩:=(blk_st4 k1 v0 v1 v2 v3).cfr
 refine bodyPost_ret_by (v:=.agg #[v0,v1,v2,v3]) ?_ rfl hQ
 simp [results,Tryz.results138,go_sem,h4,t0,t1,t2,t3]
theorem Dst.st4 {w W:World} {r:Nat} {a:Option Addr} {n c:Nat} {zs:List Int} {k:Nat} (h:Dst w W r a n c zs k) {g:Nat} (hg:w.heap.size≤g) (v0 v1 v2 v3:Value):Dst w (st4 W g v0 v1 v2 v3) r a n c zs k:=h.grow ((turn_st4 W g v0 v1 v2 v3).mono (fun j hj=>by subst hj;exact hg))
theorem wr62 (x:Int) (h0:-4611686018427387904≤x) (h1:x≤4611686018427387903):IntKind.i64.wrap x=x:=by
 unfold IntKind.wrap
 simp [IntKind.bits,IntKind.signed]
 omega
set_option maxHeartbeats 1000000 in
theorem l5Config_fn (zs:List Int) (hz:∀ j,0≤zs.getD j 0∧zs.getD j 0≤255) (k:Nat) (w:World) (r:Nat) (a:Option Addr) (n c:Nat) (h:Dst w w r a n c zs k):
 Calls Tryz.prog 138 #[.pointer (some ⟨r,0,none⟩)] w (CfP w r a n c zs):=by
 obtain ⟨K,E1,z0,z1⟩:=draw_of hz k
 have D0:=h.below (al_below w (.cells #[.int .i64 0,.int .i64 0,.int .i64 0,.int .i64 0] 25))
 have R0:Blk _ w.heap.size #[.int .i64 0,.int .i64 0,.int .i64 0,.int .i64 0] 25:=Blk.new w #[.int .i64 0,.int .i64 0,.int .i64 0,.int .i64 0] 25
 have hlt:=h.lt
 have d3:IntKind.i64.wrap (K.tdiv 3)=K / 3:=by rw [Int.tdiv_eq_ediv_of_nonneg z0,wr62 _ (by omega) (by omega)]
 have d8:IntKind.i64.wrap (K.tdiv 8)=K / 8:=by rw [Int.tdiv_eq_ediv_of_nonneg z0,wr62 _ (by omega) (by omega)]
 have d32:IntKind.i64.wrap (K.tdiv 32)=K / 32:=by rw [Int.tdiv_eq_ediv_of_nonneg z0,wr62 _ (by omega) (by omega)]
 have m3:K.tmod 3=K % 3:=Int.tmod_eq_emod_of_nonneg z0
 have m2:(K / 3).tmod 2=K / 3 % 2:=Int.tmod_eq_emod_of_nonneg (by omega)
 have m4:(K / 8).tmod 4=K / 8 % 4:=Int.tmod_eq_emod_of_nonneg (by omega)
 have y1:IntKind.i64.wrap (K / 3 % 2 * 24)=K / 3 % 2 * 24:=wr62 _ (by omega) (by omega)
 have y2:IntKind.i64.wrap (64 - K / 3 % 2 * 24)=64 - K / 3 % 2 * 24:=wr62 _ (by omega) (by omega)
 have y3:IntKind.i64.wrap (1+K / 8 % 4)=1+K / 8 % 4:=wr62 _ (by omega) (by omega)
 have y4:IntKind.i64.wrap (32 * (1+K / 8 % 4))=32 * (1+K / 8 % 4):=wr62 _ (by omega) (by omega)
 have y5:IntKind.i64.wrap (K / 32 * 3)=K / 32 * 3:=wr62 _ (by omega) (by omega)
 have y6:IntKind.i64.wrap (3+K / 32 * 3)=3+K / 32 * 3:=wr62 _ (by omega) (by omega)
 clear h
 go_enter Tryz.func138,Tryz.ntmps138
 go_wp2_with fail
 refine (D0.next K E1).mono ?_
 rintro e w1 ⟨rfl,D1,t1⟩
 have R1:=turn_blk t1 R0 (by omega)
 obtain ⟨⟨r0,r1,r2,r3⟩,s0,s1,s2,s3⟩:=R1.cfr
 have HD:=hide (And.intro D1 R1)
 clear D0 R0 t1 E1 D1 R1
 go_wp2
 refine cf_end HD.out.2 _ _ _ _ _ _ rfl ?_
 exact ⟨_,_,_,_,_,by omega,rfl,HD.out.1.st4 (Nat.le_refl _) _ _ _ _⟩
end Go.Proofs.YtngdgogjlpjjpadGreat
