import Derived.Test.YtngdgogjlpjjpadGreatP26
import Derived.Test.YtngdgogjlpjjpadGreatP28
import Derived.Test.YtngdgogjlpjjpadGreatP29
import Derived.Test.YtngdgogjlpjjpadGreatP30
import Derived.Test.YtngdgogjlpjjpadGreatP31
namespace Go.Proofs.YtngdgogjlpjjpadGreat
open Go.RowKit Classical
set_option linter.unusedVariables false
set_option linter.unusedSimpArgs false
set_option maxRecDepth 100000
theorem l4Spoil_u (zs:List Int) (hz:∀ j,0≤zs.getD j 0∧zs.getD j 0≤255) (k:Nat) (P:PMod) (DP:DnR P):∃ y:PMod × Nat,DoR y.1∧SpU zs k P y.1 y.2:=by
 obtain ⟨K,E1,z0,z1⟩:=draw_of hz k
 obtain ⟨V,E2,y0,y1⟩:=draw_of hz (k+1)
 have D0:=DP.dor
 obtain ⟨N,hN⟩:∃ N:Nat,(N:Int)=16+V % 2:=⟨(16+V % 2).toNat,by omega⟩
 have hj:K % 12=0∨K % 12=1∨K % 12=2∨K % 12=3∨K % 12=4∨K % 12=5∨K % 12=6∨K % 12=7∨K % 12=8∨K % 12=9∨K % 12=10∨K % 12=11:=by omega
 rcases hj with c0 | c0 | c0 | c0 | c0 | c0 | c0 | c0 | c0 | c0 | c0 | c0
 ·rcases (show V % 4=0∨V % 4=1∨V % 4=2∨V % 4=3 by omega) with c1 | c1 | c1 | c1
  ·refine ⟨(_,k+2),?_,sp0_0 zs k K V E1 E2 z0 z1 y0 y1 P DP c0 c1⟩
   exact ⟨((by decide:(⟨#[]⟩:ByteArray).size≤13)),D0.t,D0.b,D0.d,D0.s,D0.r,D0.i,D0.e⟩
  ·refine ⟨(_,k+2),?_,sp0_1 zs k K V E1 E2 z0 z1 y0 y1 P DP c0 c1⟩
   exact ⟨((by decide:(⟨#[65]⟩:ByteArray).size≤13)),D0.t,D0.b,D0.d,D0.s,D0.r,D0.i,D0.e⟩
  ·refine ⟨(_,k+2),?_,sp0_2 zs k K V E1 E2 z0 z1 y0 y1 P DP c0 c1⟩
   exact ⟨((by decide:(⟨#[97,98,99,100,101,102,103,104,105,106,107,108]⟩:ByteArray).size≤13)),D0.t,D0.b,D0.d,D0.s,D0.r,D0.i,D0.e⟩
  ·refine ⟨(_,k+2),?_,sp0_3 zs k K V E1 E2 z0 z1 y0 y1 P DP c0 c1⟩
   exact ⟨((by decide:(⟨#[97,98,99,100,101,102,103,104,105,106,107,108,109]⟩:ByteArray).size≤13)),D0.t,D0.b,D0.d,D0.s,D0.r,D0.i,D0.e⟩
 ·rcases (show V % 2=0∨V % 2=1 by omega) with c1 | c1
  ·refine ⟨(_,k+2),?_,sp1_0 zs k K V E1 E2 z0 z1 y0 y1 P DP c0 c1⟩
   exact ⟨D0.n,(⟨by show (List.replicate 200 (0:Int)).length≤201;simp,fun z hz=>by have:=List.eq_of_mem_replicate hz;omega⟩),D0.b,D0.d,D0.s,D0.r,D0.i,D0.e⟩
  ·refine ⟨(_,k+2),?_,sp1_1 zs k K V E1 E2 z0 z1 y0 y1 P DP c0 c1⟩
   exact ⟨D0.n,(⟨by show (List.replicate 201 (0:Int)).length≤201;simp,fun z hz=>by have:=List.eq_of_mem_replicate hz;omega⟩),D0.b,D0.d,D0.s,D0.r,D0.i,D0.e⟩
 ·rcases (show V % 3=0∨V % 3=1∨V % 3=2 by omega) with c1 | c1 | c1
  ·refine ⟨(_,k+2),?_,sp2_0 zs k K V E1 E2 z0 z1 y0 y1 P DP c0 c1⟩
   exact ⟨D0.n,D0.t,(⟨by show (P.bl++[List.replicate 0 (0:Int)]).length≤5;have:=DP.b.1;simp;omega,fun l hl=>by rcases List.mem_append.1 hl with hl | hl;exact ⟨by have:=(DP.b.2 l hl).1;omega,(DP.b.2 l hl).2⟩;rw [List.mem_singleton] at hl;subst hl;exact ⟨by simp,fun z hz=>by have:=List.eq_of_mem_replicate hz;omega⟩⟩),D0.d,D0.s,D0.r,D0.i,D0.e⟩
  ·refine ⟨(_,k+2),?_,sp2_1 zs k K V E1 E2 z0 z1 y0 y1 P DP c0 c1⟩
   exact ⟨D0.n,D0.t,(⟨by show (P.bl++[List.replicate 64 (0:Int)]).length≤5;have:=DP.b.1;simp;omega,fun l hl=>by rcases List.mem_append.1 hl with hl | hl;exact ⟨by have:=(DP.b.2 l hl).1;omega,(DP.b.2 l hl).2⟩;rw [List.mem_singleton] at hl;subst hl;exact ⟨by simp,fun z hz=>by have:=List.eq_of_mem_replicate hz;omega⟩⟩),D0.d,D0.s,D0.r,D0.i,D0.e⟩
  ·refine ⟨(_,k+2),?_,sp2_2 zs k K V E1 E2 z0 z1 y0 y1 P DP c0 c1⟩
   exact ⟨D0.n,D0.t,(⟨by show (P.bl++[List.replicate 65 (0:Int)]).length≤5;have:=DP.b.1;simp;omega,fun l hl=>by rcases List.mem_append.1 hl with hl | hl;exact ⟨by have:=(DP.b.2 l hl).1;omega,(DP.b.2 l hl).2⟩;rw [List.mem_singleton] at hl;subst hl;exact ⟨by simp,fun z hz=>by have:=List.eq_of_mem_replicate hz;omega⟩⟩),D0.d,D0.s,D0.r,D0.i,D0.e⟩
 ·rcases (show V % 3=0∨V % 3=1∨V % 3=2 by omega) with c1 | c1 | c1
  ·refine ⟨(_,k+2),?_,sp3_0 zs k K V E1 E2 z0 z1 y0 y1 P DP c0 c1⟩
   exact ⟨D0.n,(⟨by show (P.tz++[-1]).length≤201;have:=DP.t.1;simp;omega,fun z hz=>by rcases List.mem_append.1 hz with hz | hz;exact (by have:=DP.t.2 z hz;omega);simp at hz;omega⟩),D0.b,D0.d,D0.s,D0.r,D0.i,D0.e⟩
  ·refine ⟨(_,k+2),?_,sp3_1 zs k K V E1 E2 z0 z1 y0 y1 P DP c0 c1⟩
   exact ⟨D0.n,(⟨by show (P.tz++[4294967295]).length≤201;have:=DP.t.1;simp;omega,fun z hz=>by rcases List.mem_append.1 hz with hz | hz;exact (by have:=DP.t.2 z hz;omega);simp at hz;omega⟩),D0.b,D0.d,D0.s,D0.r,D0.i,D0.e⟩
  ·refine ⟨(_,k+2),?_,sp3_2 zs k K V E1 E2 z0 z1 y0 y1 P DP c0 c1⟩
   exact ⟨D0.n,(⟨by show (P.tz++[4294967296]).length≤201;have:=DP.t.1;simp;omega,fun z hz=>by rcases List.mem_append.1 hz with hz | hz;exact (by have:=DP.t.2 z hz;omega);simp at hz;omega⟩),D0.b,D0.d,D0.s,D0.r,D0.i,D0.e⟩
 ·rcases (show V % 2=0∨V % 2=1 by omega) with c1 | c1
  ·refine ⟨(_,k+2),?_,sp4_0 zs k K V E1 E2 z0 z1 y0 y1 P DP c0 c1⟩
   exact ⟨D0.n,D0.t,D0.b,(⟨by show (List.replicate 512 (0:Int)).length≤513;simp,fun z hz=>by have:=List.eq_of_mem_replicate hz;omega⟩),D0.s,D0.r,D0.i,D0.e⟩
  ·refine ⟨(_,k+2),?_,sp4_1 zs k K V E1 E2 z0 z1 y0 y1 P DP c0 c1⟩
   exact ⟨D0.n,D0.t,D0.b,(⟨by show (List.replicate 513 (0:Int)).length≤513;simp,fun z hz=>by have:=List.eq_of_mem_replicate hz;omega⟩),D0.s,D0.r,D0.i,D0.e⟩
 ·rcases (show V % 3=0∨V % 3=1∨V % 3=2 by omega) with c1 | c1 | c1
  ·refine ⟨(_,k+2),?_,sp5_0 zs k K V E1 E2 z0 z1 y0 y1 P DP c0 c1⟩
   exact ⟨D0.n,D0.t,D0.b,D0.d,((by decide:(-1:Int)≤(-1)∧((-1):Int)≤513)),D0.r,D0.i,D0.e⟩
  ·refine ⟨(_,k+2),?_,sp5_1 zs k K V E1 E2 z0 z1 y0 y1 P DP c0 c1⟩
   exact ⟨D0.n,D0.t,D0.b,D0.d,((by decide:(-1:Int)≤(512)∧((512):Int)≤513)),D0.r,D0.i,D0.e⟩
  ·refine ⟨(_,k+2),?_,sp5_2 zs k K V E1 E2 z0 z1 y0 y1 P DP c0 c1⟩
   exact ⟨D0.n,D0.t,D0.b,D0.d,((by decide:(-1:Int)≤(513)∧((513):Int)≤513)),D0.r,D0.i,D0.e⟩
 ·rcases (show V % 5=0∨V % 5=1∨V % 5=2∨V % 5=3∨V % 5=4 by omega) with c1 | c1 | c1 | c1 | c1
  ·refine ⟨(_,k+2),?_,sp6_0 zs k K V E1 E2 z0 z1 y0 y1 P DP c0 c1⟩
   exact ⟨D0.n,D0.t,D0.b,D0.d,D0.s,(⟨by show (P.rz++[2]).length≤2;rcases DP.r with e | e <;> rw [e] <;> simp,fun z hz=>by have hd:=DP.d.1;rcases List.mem_append.1 hz with hz | hz;exact (by rcases DP.r with e | e <;> rw [e] at hz <;> simp at hz <;> omega);simp at hz;omega⟩),D0.i,D0.e⟩
  ·refine ⟨(_,k+2),?_,sp6_1 zs k K V E1 E2 z0 z1 y0 y1 P DP c0 c1⟩
   exact ⟨D0.n,D0.t,D0.b,D0.d,D0.s,(⟨by show (P.rz++[0]).length≤2;rcases DP.r with e | e <;> rw [e] <;> simp,fun z hz=>by have hd:=DP.d.1;rcases List.mem_append.1 hz with hz | hz;exact (by rcases DP.r with e | e <;> rw [e] at hz <;> simp at hz <;> omega);simp at hz;omega⟩),D0.i,D0.e⟩
  ·refine ⟨(_,k+2),?_,sp6_2 zs k K V E1 E2 z0 z1 y0 y1 P DP c0 c1⟩
   exact ⟨D0.n,D0.t,D0.b,D0.d,D0.s,(⟨by show (P.rz++[(P.dz.length:Int) - 4]).length≤2;rcases DP.r with e | e <;> rw [e] <;> simp,fun z hz=>by have hd:=DP.d.1;rcases List.mem_append.1 hz with hz | hz;exact (by rcases DP.r with e | e <;> rw [e] at hz <;> simp at hz <;> omega);simp at hz;omega⟩),D0.i,D0.e⟩
  ·refine ⟨(_,k+2),?_,sp6_3 zs k K V E1 E2 z0 z1 y0 y1 P DP c0 c1⟩
   exact ⟨D0.n,D0.t,D0.b,D0.d,D0.s,(⟨by show (P.rz++[(P.dz.length:Int)]).length≤2;rcases DP.r with e | e <;> rw [e] <;> simp,fun z hz=>by have hd:=DP.d.1;rcases List.mem_append.1 hz with hz | hz;exact (by rcases DP.r with e | e <;> rw [e] at hz <;> simp at hz <;> omega);simp at hz;omega⟩),D0.i,D0.e⟩
  ·refine ⟨(_,k+2),?_,sp6_4 zs k K V E1 E2 z0 z1 y0 y1 P DP c0 c1⟩
   exact ⟨D0.n,D0.t,D0.b,D0.d,D0.s,(⟨by show (P.rz++[-4]).length≤2;rcases DP.r with e | e <;> rw [e] <;> simp,fun z hz=>by have hd:=DP.d.1;rcases List.mem_append.1 hz with hz | hz;exact (by rcases DP.r with e | e <;> rw [e] at hz <;> simp at hz <;> omega);simp at hz;omega⟩),D0.i,D0.e⟩
 ·rcases (show V % 6=0∨V % 6=1∨V % 6=2∨V % 6=3∨V % 6=4∨V % 6=5 by omega) with c1 | c1 | c1 | c1 | c1 | c1
  ·refine ⟨(_,k+2),?_,sp7_0 zs k K V E1 E2 z0 z1 y0 y1 P DP c0 c1⟩
   exact ⟨D0.n,D0.t,D0.b,D0.d,D0.s,D0.r,(⟨by show (P.ss++[(⟨#[]⟩:ByteArray)]).length≤17;have:=DP.i.1;simp;omega,fun z hz=>by rcases List.mem_append.1 hz with hz | hz;exact DP.i.2 z hz;rw [List.mem_singleton] at hz;subst hz;decide⟩),D0.e⟩
  ·refine ⟨(_,k+2),?_,sp7_1 zs k K V E1 E2 z0 z1 y0 y1 P DP c0 c1⟩
   exact ⟨D0.n,D0.t,D0.b,D0.d,D0.s,D0.r,(⟨by show (P.ss++[(⟨#[97]⟩:ByteArray)]).length≤17;have:=DP.i.1;simp;omega,fun z hz=>by rcases List.mem_append.1 hz with hz | hz;exact DP.i.2 z hz;rw [List.mem_singleton] at hz;subst hz;decide⟩),D0.e⟩
  ·refine ⟨(_,k+2),?_,sp7_2 zs k K V E1 E2 z0 z1 y0 y1 P DP c0 c1⟩
   exact ⟨D0.n,D0.t,D0.b,D0.d,D0.s,D0.r,(⟨by show (P.ss++[(⟨#[97,46]⟩:ByteArray)]).length≤17;have:=DP.i.1;simp;omega,fun z hz=>by rcases List.mem_append.1 hz with hz | hz;exact DP.i.2 z hz;rw [List.mem_singleton] at hz;subst hz;decide⟩),D0.e⟩
  ·refine ⟨(_,k+2),?_,sp7_3 zs k K V E1 E2 z0 z1 y0 y1 P DP c0 c1⟩
   exact ⟨D0.n,D0.t,D0.b,D0.d,D0.s,D0.r,(⟨by show (P.ss++[(⟨#[97,46,98]⟩:ByteArray)]).length≤17;have:=DP.i.1;simp;omega,fun z hz=>by rcases List.mem_append.1 hz with hz | hz;exact DP.i.2 z hz;rw [List.mem_singleton] at hz;subst hz;decide⟩),D0.e⟩
  ·refine ⟨(_,k+2),?_,sp7_4 zs k K V E1 E2 z0 z1 y0 y1 P DP c0 c1⟩
   exact ⟨D0.n,D0.t,D0.b,D0.d,D0.s,D0.r,(⟨by show (P.ss++[(⟨#[97,46,98,46,99]⟩:ByteArray)]).length≤17;have:=DP.i.1;simp;omega,fun z hz=>by rcases List.mem_append.1 hz with hz | hz;exact DP.i.2 z hz;rw [List.mem_singleton] at hz;subst hz;decide⟩),D0.e⟩
  ·refine ⟨(_,k+2),?_,sp7_5 zs k K V E1 E2 z0 z1 y0 y1 P DP c0 c1⟩
   exact ⟨D0.n,D0.t,D0.b,D0.d,D0.s,D0.r,(⟨by show (P.ss++[(⟨#[65,46,98]⟩:ByteArray)]).length≤17;have:=DP.i.1;simp;omega,fun z hz=>by rcases List.mem_append.1 hz with hz | hz;exact DP.i.2 z hz;rw [List.mem_singleton] at hz;subst hz;decide⟩),D0.e⟩
 ·refine ⟨(_,k+2),?_,sp8 zs k K V E1 E2 z0 z1 y0 y1 P DP N c0 hN⟩
  refine ⟨D0.n,D0.t,D0.b,D0.d,D0.s,D0.r,⟨?_,?_⟩,D0.e⟩
  ·show (P.ss++List.replicate (N - P.ss.length) (⟨#[109,97,46,103,111]⟩:ByteArray)).length≤17
   have:=DP.i.1
   simp
   omega
  ·intro s hs
   rcases List.mem_append.1 hs with hs | hs
   ·exact DP.i.2 s hs
   ·have:=List.eq_of_mem_replicate hs
    subst this
    decide
 ·rcases (show V % 4=0∨V % 4=1∨V % 4=2∨V % 4=3 by omega) with c1 | c1 | c1 | c1
  ·refine ⟨(_,k+2),?_,sp9_0 zs k K V E1 E2 z0 z1 y0 y1 P DP c0 c1⟩
   exact ⟨D0.n,D0.t,D0.b,D0.d,D0.s,D0.r,D0.i,(⟨by show (P.es++[((⟨#[103,111]⟩,V / 4 % 4 - 2,V / 16 % 3):Ex)]).length≤17;have:=DP.e.1;simp;omega,fun z hz=>by rcases List.mem_append.1 hz with hz | hz;exact (by have:=DP.e.2 z hz;omega);rw [List.mem_singleton] at hz;subst hz;exact ⟨(by decide:(⟨#[103,111]⟩:ByteArray).size≤2),by dsimp only;omega,by dsimp only;omega,by dsimp only;omega,by dsimp only;omega⟩⟩)⟩
  ·refine ⟨(_,k+2),?_,sp9_1 zs k K V E1 E2 z0 z1 y0 y1 P DP c0 c1⟩
   exact ⟨D0.n,D0.t,D0.b,D0.d,D0.s,D0.r,D0.i,(⟨by show (P.es++[((⟨#[120]⟩,V / 4 % 4 - 2,V / 16 % 3):Ex)]).length≤17;have:=DP.e.1;simp;omega,fun z hz=>by rcases List.mem_append.1 hz with hz | hz;exact (by have:=DP.e.2 z hz;omega);rw [List.mem_singleton] at hz;subst hz;exact ⟨(by decide:(⟨#[120]⟩:ByteArray).size≤2),by dsimp only;omega,by dsimp only;omega,by dsimp only;omega,by dsimp only;omega⟩⟩)⟩
  ·refine ⟨(_,k+2),?_,sp9_2 zs k K V E1 E2 z0 z1 y0 y1 P DP c0 c1⟩
   exact ⟨D0.n,D0.t,D0.b,D0.d,D0.s,D0.r,D0.i,(⟨by show (P.es++[((⟨#[98,97]⟩,V / 4 % 4 - 2,V / 16 % 3):Ex)]).length≤17;have:=DP.e.1;simp;omega,fun z hz=>by rcases List.mem_append.1 hz with hz | hz;exact (by have:=DP.e.2 z hz;omega);rw [List.mem_singleton] at hz;subst hz;exact ⟨(by decide:(⟨#[98,97]⟩:ByteArray).size≤2),by dsimp only;omega,by dsimp only;omega,by dsimp only;omega,by dsimp only;omega⟩⟩)⟩
  ·refine ⟨(_,k+2),?_,sp9_3 zs k K V E1 E2 z0 z1 y0 y1 P DP c0 c1⟩
   exact ⟨D0.n,D0.t,D0.b,D0.d,D0.s,D0.r,D0.i,(⟨by show (P.es++[((⟨#[]⟩,V / 4 % 4 - 2,V / 16 % 3):Ex)]).length≤17;have:=DP.e.1;simp;omega,fun z hz=>by rcases List.mem_append.1 hz with hz | hz;exact (by have:=DP.e.2 z hz;omega);rw [List.mem_singleton] at hz;subst hz;exact ⟨(by decide:(⟨#[]⟩:ByteArray).size≤2),by dsimp only;omega,by dsimp only;omega,by dsimp only;omega,by dsimp only;omega⟩⟩)⟩
 ·refine ⟨(_,k+2),?_,sp10 zs k K V E1 E2 z0 z1 y0 y1 P DP N c0 hN⟩
  refine ⟨D0.n,D0.t,D0.b,D0.d,D0.s,D0.r,D0.i,⟨?_,?_⟩⟩
  ·show (P.es++exE (N - P.es.length)).length≤17
   have:=DP.e.1
   rw [List.length_append,exE_len]
   omega
  ·intro x hx
   rcases List.mem_append.1 hx with hx | hx
   ·have:=DP.e.2 x hx;omega
   ·unfold exE at hx
    rw [List.mem_map] at hx
    obtain ⟨q,_,rfl⟩:=hx
    refine ⟨?_,by dsimp only;omega,by dsimp only;omega,by dsimp only;omega,by dsimp only;omega⟩
    show (((⟨#[101]⟩:ByteArray)++strOf [97+(q:Int)]).size)≤2
    rw [ByteArray.size_append,strOf_size]
    exact Nat.le_refl 2
 ·rcases (show V % 2=0∨V % 2=1 by omega) with c1 | c1
  ·refine ⟨(_,k+2),?_,sp11_0 zs k K V E1 E2 z0 z1 y0 y1 P DP c0 c1⟩
   exact ⟨D0.n,D0.t,(⟨by show 4≤5;omega,fun l hl=>by simp at hl;subst hl;exact ⟨by simp,fun z hz=>by simp at hz;omega⟩⟩),D0.d,D0.s,D0.r,D0.i,D0.e⟩
  ·refine ⟨(_,k+2),?_,sp11_1 zs k K V E1 E2 z0 z1 y0 y1 P DP c0 c1⟩
   exact ⟨D0.n,D0.t,(⟨by show 5≤5;omega,fun l hl=>by simp at hl;subst hl;exact ⟨by simp,fun z hz=>by simp at hz;omega⟩⟩),D0.d,D0.s,D0.r,D0.i,D0.e⟩
end Go.Proofs.YtngdgogjlpjjpadGreat
