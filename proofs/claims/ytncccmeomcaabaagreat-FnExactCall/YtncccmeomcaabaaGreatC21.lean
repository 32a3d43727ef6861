import Derived.ChangeMaps5
import Derived.Test.YtncccmeomcaabaaGreatC19
import Derived.Test.YtncccmeomcaabaaGreatC20
set_option linter.all false
set_option maxHeartbeats 4000000
namespace Go.Proofs.YtncccmeomcaabaaGreat
open Go.RowKit Classical
set_option maxRecDepth 100000
variable {A:Act}{C:Cn}{F ga gt id lo:Nat}{M:Mn}{Q:Exit->Act->World->Prop}{b m t:Int}{ops:Array Oper}{x:Value}
def iA (ops:Array Oper)(k:Nat)(d:Option Tmp)(op:Op)(es:List Nat):Prop:=∃ (ty:TypeId) (p:String) (af:Array Edge),ops[k]?=some { dst:=d,op:=op,type:=ty,pos:=p,after:=af,guard:=none }/\∀ j∈es,(⟨j,.data⟩:Edge)∈af
theorem aOf {a:Act}{W:qw}{gb k k2:Nat}{d:Option Tmp}{ty:TypeId}{p:String}{af:Array _}{gd:Option _}{N:Mn}(kb:Blk W gb z15 43)(h:a.tmps[k]?.getD undef=.pointer (qP gb))(h2:a.tmps[k2]?.getD undef=.agg (qA N)):(execOp a.eval { dst:=d,op:=Op.store 43 (Operand.tmp k) (Operand.tmp k2),type:=ty,pos:=p,after:=af,guard:=gd }).run Tryz.prog W=.ok .skip (stM W gb N):=by
 unfold z15 at kb;obtain ⟨q0,q1,q2,q3,q4,q5,q6,q7,q8,q9,q10,q11,q12,q13,q14⟩:=kb.mc;have f0:=kb.frozen 0;have f1:=kb.frozen 1;have f2:=kb.frozen 2;have f3:=kb.frozen 3;have f4:=kb.frozen 4;have f5:=kb.frozen 5;have f6:=kb.frozen 6;have f7:=kb.frozen 7;have f8:=kb.frozen 8;have f9:=kb.frozen 9;have f10:=kb.frozen 10;have f11:=kb.frozen 11;have f12:=kb.frozen 12;have f13:=kb.frozen 13;have f14:=kb.frozen 14;unfold stM mL;go_simp
def PEa (M:Mn)(m b t:Int)(C:Cn)(x:Value)(lo:Nat):Nat->Value->World->Prop
 | 0,v,_=>v=.agg (qA M)
 | 1,v,W=>∃ base g0 g1 g2 g3 g4 g5 g6 ms',v=.agg (qK M g0 g1 g2 g3 g4 g5 g6)/\MnR W base M g0 g1 g2 g3 g4 g5 g6 ms'
 | 2,v,_=>v=.agg (qT m b t)
 | 3,v,_=>v=.agg (qT m b t)
 | 4,v,W=>∃ N:Mn,v=.tuple #[.agg (qA N),x]/\RX C lo N W
 | 5,v,W=>∃ N:Mn,v=.tuple #[.agg (qA N),x]/\RX C lo N W
 | 6,v,W=>∃ N:Mn,v=.agg (qA N)/\RX C lo N W
 | 7,v,_=>v=x
 | 10,v,_=>v=x
 | _,_,_=>True
theorem kK (M:Mn)(m b t:Int)(C:Cn)(x:Value)(lo:Nat):Stb (PEa M m b t C x lo) (RX C lo):=⟨fun {j} {v} {W} {W'} h q=>by
 match j with
 | 0|2|3|7|8|9|10=>exact h
 | 1=>obtain ⟨base,g0,g1,g2,g3,g4,g5,g6,ms',e,r⟩:=h;exact ⟨base,g0,g1,g2,g3,g4,g5,g6,ms',e,r.tm q⟩
 | 4=>obtain ⟨N,e,r⟩:=h;exact ⟨N,e,r.tm q⟩
 | 5=>obtain ⟨N,e,r⟩:=h;exact ⟨N,e,r.tm q⟩
 | 6=>obtain ⟨N,e,r⟩:=h;exact ⟨N,e,r.tm q⟩
 | _+11=>exact h,fun h q=>h.tm q⟩
def PEb (u:Value)(m b t:Int)(C:Cn)(x:Value)(lo:Nat):Nat->Value->World->Prop
 | 0,v,_=>v=u
 | 1,v,_=>v=.agg (qT m b t)
 | 2,v,_=>v=.agg (qT m b t)
 | 3,v,W=>∃ N:Mn,v=.tuple #[.agg (qA N),x]/\RX C lo N W
 | 4,v,W=>∃ N:Mn,v=.tuple #[.agg (qA N),x]/\RX C lo N W
 | 5,v,W=>∃ N:Mn,v=.agg (qA N)/\RX C lo N W
 | 6,v,_=>v=x
 | 9,v,_=>v=x
 | _,_,_=>True
theorem mF (u:Value)(m b t:Int)(C:Cn)(x:Value)(lo:Nat):Stb (PEb u m b t C x lo) (RX C lo):=⟨fun {j} {v} {W} {W'} h q=>by
 match j with
 | 0|1|2|6|7|8|9=>exact h
 | 3=>obtain ⟨N,e,r⟩:=h;exact ⟨N,e,r.tm q⟩
 | 4=>obtain ⟨N,e,r⟩:=h;exact ⟨N,e,r.tm q⟩
 | 5=>obtain ⟨N,e,r⟩:=h;exact ⟨N,e,r.tm q⟩
 | _+10=>exact h,fun h q=>h.tm q⟩
theorem aQf {W0:qw}(slot:Nat->Nat)(sl:List Nat)(q:SlG 11 9 slot sl A.tmps.size)(hs:ops.size=11)(hF:∀ (args:Array Value) (X:qw),(callFunc F args).run Tryz.prog X=.ok (.enter F args) X)(na:2 ∉ sl/\3 ∉ sl)(ha:A.tmps.getD 2 undef=.pointer (qP ga))(ht:A.tmps.getD 3 undef=.pointer (qP gt))(o0:iA ops 0 (some (slot 0)) (.load 34 (.tmp 2)) [])(o1:iA ops 1 (some (slot 1)) (.call { callee:=.value (.func 9),args:=#[.tmp (slot 0)],argTypes:=#[34] }) [0])(o2:iA ops 2 (some (slot 2)) (.load 56 (.tmp 3)) [])(o3:iA ops 3 (some (slot 3)) (.call { callee:=.value (.func 20),args:=#[.tmp (slot 2)],argTypes:=#[56] }) [2])(o4:iA ops 4 (some (slot 4)) (.call { callee:=.value (.func F),args:=#[.tmp (slot 1),.tmp (slot 3)],argTypes:=#[43,58] }) [1,3])(o5:iA ops 5 (some (slot 5)) (.move (.tmp (slot 4))) [4])(o6:iA ops 6 (some (slot 6)) (.extract (.tmp (slot 5)) 0) [5])(o7:iA ops 7 (some (slot 7)) (.extract (.tmp (slot 5)) 1) [5])(o8:iA ops 8 (some (slot 8)) (.alloc 43) [])(o9:iA ops 9 none (.store 43 (.tmp (slot 8)) (.tmp (slot 6))) [8,6])(o10:iA ops 10 (some (slot 10)) (.assign (.tmp (slot 7))) [7])(hall:((List.range ops.size).all fun i=>match ops[i]? with|some o=>o.after.all (fun e=>!Region.binds .any e || decide (e.on<i))|none=>true)=true)(HK:∀ X,qY W0 X->Blk X ga (qA M) 34/\(X.cell? (qR gt 0)=some (qI m)/\X.cell? (qR gt 1)=some (qI b)/\X.cell? (qR gt 2)=some (qI t)))(HTO:∀ X,qY W0 X->qC 9 #[.agg (qA M)] X (fun e w'=>∃ g0 g1 g2 g3 g4 g5 g6 ms',e=.returned (.agg (qK M g0 g1 g2 g3 g4 g5 g6))/\MnR w' X.heap.size M g0 g1 g2 g3 g4 g5 g6 ms'/\qY X w'))(HE:∀ (X:qw) (bs g0 g1 g2 g3 g4 g5 g6:Nat) (ms':List Md),MnR X bs M g0 g1 g2 g3 g4 g5 g6 ms'->lo<=X.heap.size->qC F #[.agg (qK M g0 g1 g2 g3 g4 g5 g6),.agg (qT m b t)] X (fun e w'=>qY X w'/\∃ N:Mn,e=.returned (.tuple #[.agg (qA N),x])/\RX C lo N w'))(hl:lo<=W0.heap.size)(hend:∀ (W:qw) (N:Mn) (gb:Nat) (y:Nat->Value),qY W0 W/\W0.heap.size<=gb/\Blk W gb (qA N) 43/\RX C lo N W->y (slot 8)=.pointer (qP gb)->y (slot 10)=x->Q .normal (sL A y sl) W):(Code.region id ops true).wp Tryz.prog Q A W0:=by
 obtain ⟨_,_,_,o0,z0⟩:=o0;obtain ⟨_,_,_,o1,z1⟩:=o1;obtain ⟨_,_,_,o2,z2⟩:=o2;obtain ⟨_,_,_,o3,z3⟩:=o3;obtain ⟨_,_,_,o4,z4⟩:=o4;obtain ⟨_,_,_,o5,z5⟩:=o5;obtain ⟨_,_,_,o6,z6⟩:=o6;obtain ⟨_,_,_,o7,z7⟩:=o7;obtain ⟨_,_,_,o8,z8⟩:=o8;obtain ⟨_,_,_,o9,z9⟩:=o9;obtain ⟨_,_,_,o10,z10⟩:=o10;refine kD (by kernel_rfl) (fun A listed f W=>IG 11 8 9 (PEa M m b t C x lo) (RX C lo) slot sl W0 A listed f W) (by rw [hs];exact IG.start rfl) ?_ ?_
 .intro listed f W i K hI hi hK;have hlt:i<11:=by obtain ⟨_,o,ho,_⟩:=mem_ready.1 hi;have:=(Array.getElem?_eq_some_iff.1 ho).1;omega
  have hb:=(mem_ready.1 hi).1;have hz:=xM hl hI.b.size;rcases (show i=0\/i=1\/i=2\/i=3\/i=4\/i=5\/i=6\/i=7\/i=8\/i=9\/i=10 by omega) with rfl|rfl|rfl|rfl|rfl|rfl|rfl|rfl|rfl|rfl|rfl
  .have y:=(hI.fo 2 na.1).trans ha;simp only [xK] at y;exact nB o0 rfl (w':=W) (aOu (HK W hI.b).1 y) (hK _ _ (hI.next (kK M m b t C x lo) q (by decide) (j:=0) (by omega) (by omega) (by omega) _ W brf rfl))
  .have t0:=bS hi o1 ⟨0,.data⟩ (z1 0 (by simp)) rfl;have v0:=hI.p 0 (by omega) (by omega) (by omega) t0;have y0:=show f.tmps.getD (slot 0) undef=.agg (qA M) from v0;simp only [xK] at y0;refine aI9 o1 rfl (f:=9) (args:=#[.agg (qA M)]) (w':=W) (by go_simp) (HTO W hI.b) ?_;rintro e W' ⟨g0,g1,g2,g3,g4,g5,g6,ms',rfl,r1,hb1⟩;exact ⟨_,rfl,(hK _ _ (hI.next (kK M m b t C x lo) q (by decide) (j:=1) (by omega) (by omega) (by omega) _ _ hb1 ⟨_,g0,g1,g2,g3,g4,g5,g6,ms',rfl,r1⟩))⟩
  .obtain ⟨z0,z1,z2⟩:=(HK W hI.b).2;have y:=(hI.fo 3 na.2).trans ht;simp only [xK] at y;refine nB o2 rfl (w':=W) (v:=.agg (qT m b t)) ?_ (hK _ _ (hI.next (kK M m b t C x lo) q (by decide) (j:=2) (by omega) (by omega) (by omega) _ W brf rfl));go_simp
  .have t2:=bS hi o3 ⟨2,.data⟩ (z3 2 (by simp)) rfl;have v2:=hI.p 2 (by omega) (by omega) (by omega) t2;have y2:=show f.tmps.getD (slot 2) undef=.agg (qT m b t) from v2;simp only [xK] at y2;refine aI9 o3 rfl (f:=20) (args:=#[.agg (qT m b t)]) (w':=W) (by go_simp) (nD m b t W) ?_;rintro e W' ⟨rfl,hb1⟩;exact ⟨_,rfl,(hK _ _ (hI.next (kK M m b t C x lo) q (by decide) (j:=3) (by omega) (by omega) (by omega) _ _ hb1 rfl))⟩
  .have t1:=bS hi o4 ⟨1,.data⟩ (z4 1 (by simp)) rfl;have v1:=hI.p 1 (by omega) (by omega) (by omega) t1;have t3:=bS hi o4 ⟨3,.data⟩ (z4 3 (by simp)) rfl;have v3:=hI.p 3 (by omega) (by omega) (by omega) t3;obtain ⟨bs,g0,g1,g2,g3,g4,g5,g6,ms',y1,r1⟩:=v1;have y1:=show f.tmps.getD (slot 1) undef=_ from y1;simp only [xK] at y1;have y3:=show f.tmps.getD (slot 3) undef=.agg (qT m b t) from v3;simp only [xK] at y3;refine aI9 o4 rfl (f:=F) (args:=#[.agg (qK M g0 g1 g2 g3 g4 g5 g6),.agg (qT m b t)]) (w':=W) (by go_simp) (HE W bs g0 g1 g2 g3 g4 g5 g6 ms' r1 hz) ?_;rintro e W' ⟨hb1,N,rfl,rx⟩;exact ⟨_,rfl,(hK _ _ (hI.next (kK M m b t C x lo) q (by decide) (j:=4) (by omega) (by omega) (by omega) _ _ hb1 ⟨N,rfl,rx⟩))⟩
  .have t4:=bS hi o5 ⟨4,.data⟩ (z5 4 (by simp)) rfl;have v4:=hI.p 4 (by omega) (by omega) (by omega) t4;obtain ⟨N,y,rx⟩:=v4;have y:=show f.tmps.getD (slot 4) undef=_ from y;simp only [xK] at y;refine nB o5 rfl (w':=W) (v:=.tuple #[.agg (qA N),x]) ?_ (hK _ _ (hI.next (kK M m b t C x lo) q (by decide) (j:=5) (by omega) (by omega) (by omega) _ W brf ⟨N,rfl,rx⟩));go_simp
  .have t5:=bS hi o6 ⟨5,.data⟩ (z6 5 (by simp)) rfl;have v5:=hI.p 5 (by omega) (by omega) (by omega) t5;obtain ⟨N,y,rx⟩:=v5;have y:=show f.tmps.getD (slot 5) undef=_ from y;simp only [xK] at y;refine nB o6 rfl (w':=W) (v:=.agg (qA N)) ?_ (hK _ _ (hI.next (kK M m b t C x lo) q (by decide) (j:=6) (by omega) (by omega) (by omega) _ W brf ⟨N,rfl,rx⟩));go_simp
  .have t5:=bS hi o7 ⟨5,.data⟩ (z7 5 (by simp)) rfl;have v5:=hI.p 5 (by omega) (by omega) (by omega) t5;obtain ⟨N,y,rx⟩:=v5;have y:=show f.tmps.getD (slot 5) undef=_ from y;simp only [xK] at y;refine nB o7 rfl (w':=W) (v:=x) ?_ (hK _ _ (hI.next (kK M m b t C x lo) q (by decide) (j:=7) (by omega) (by omega) (by omega) _ W brf rfl));go_simp
  .refine nB o8 rfl (w':=W.alloc (.cells z15 43)) (v:=.pointer (qP W.heap.size)) ?_ (hK _ _ (hI.box (kK M m b t C x lo) q (by decide) hb));unfold z15;go_simp
  .have t8:=bS hi o9 ⟨8,.data⟩ (z9 8 (by simp)) rfl;have t6:=bS hi o9 ⟨6,.data⟩ (z9 6 (by simp)) rfl;have v6:=hI.p 6 (by omega) (by omega) (by omega) t6;obtain ⟨N,y6,rx⟩:=v6;have y6:=show f.tmps.getD (slot 6) undef=_ from y6;obtain ⟨gb,y9,e2,e3,_⟩:=hI.bx t8;have kb:=e3 ((aNi (by rw [hI.sz];omega) true).symm.trans hb);refine aQa o9 rfl (w':=stM W gb N) ?_ (hK _ _ (hI.store (kK M m b t C x lo) (by decide) hb t8 rx y9 e2 kb));simp only [xK] at y6 y9;exact aOf kb y9 y6
  .have t7:=bS hi o10 ⟨7,.data⟩ (z10 7 (by simp)) rfl;have v7:=hI.p 7 (by omega) (by omega) (by omega) t7;have y7:=show f.tmps.getD (slot 7) undef=x from v7;simp only [xK] at y7;refine nB o10 rfl (w':=W) (v:=x) ?_ (hK _ _ (hI.next (kK M m b t C x lo) q (by decide) (j:=10) (by omega) (by omega) (by omega) _ W brf rfl));go_simp
 intro listed f W hI hr;have hal:=aHj hr hall (hI.sz.trans hs.symm);rw [hs] at hal;obtain ⟨gb,e1,e2,_,e4⟩:=hI.bx (hal 8 (by omega));obtain ⟨N,kb,O⟩:=e4 (hal 9 (by omega));have xq:=hI.p 10 (by omega) (by omega) (by omega) (hal 10 (by omega));rw [aGo hI.fd hI.fs hI.fo];exact hend W N gb _ ⟨hI.b,e2,kb,O⟩ e1 xq
theorem aQ3 {W0:qw}(slot:Nat->Nat)(sl:List Nat)(q:SlG 10 8 slot sl A.tmps.size)(hs:ops.size=10)(hF:∀ (args:Array Value) (X:qw),(callFunc F args).run Tryz.prog X=.ok (.enter F args) X)(na:8 ∉ sl/\3 ∉ sl)(ha:A.tmps.getD 8 undef=.pointer (qP ga))(ht:A.tmps.getD 3 undef=.pointer (qP gt))(o0:iA ops 0 (some (slot 0)) (.load 43 (.tmp 8)) [])(o1:iA ops 1 (some (slot 1)) (.load 56 (.tmp 3)) [])(o2:iA ops 2 (some (slot 2)) (.call { callee:=.value (.func 20),args:=#[.tmp (slot 1)],argTypes:=#[56] }) [1])(o3:iA ops 3 (some (slot 3)) (.call { callee:=.value (.func F),args:=#[.tmp (slot 0),.tmp (slot 2)],argTypes:=#[43,58] }) [0,2])(o4:iA ops 4 (some (slot 4)) (.move (.tmp (slot 3))) [3])(o5:iA ops 5 (some (slot 5)) (.extract (.tmp (slot 4)) 0) [4])(o6:iA ops 6 (some (slot 6)) (.extract (.tmp (slot 4)) 1) [4])(o7:iA ops 7 (some (slot 7)) (.alloc 43) [])(o8:iA ops 8 none (.store 43 (.tmp (slot 7)) (.tmp (slot 5))) [7,5])(o9:iA ops 9 (some (slot 9)) (.assign (.tmp (slot 6))) [6])(hall:((List.range ops.size).all fun i=>match ops[i]? with|some o=>o.after.all (fun e=>!Region.binds .any e || decide (e.on<i))|none=>true)=true){g0 g1 g2 g3 g4 g5 g6:Nat}(HK:∀ X,qY W0 X->Blk X ga (qK M g0 g1 g2 g3 g4 g5 g6) 43/\(X.cell? (qR gt 0)=some (qI m)/\X.cell? (qR gt 1)=some (qI b)/\X.cell? (qR gt 2)=some (qI t)))(HE:∀ X,qY W0 X->lo<=X.heap.size->qC F #[.agg (qK M g0 g1 g2 g3 g4 g5 g6),.agg (qT m b t)] X (fun e w'=>qY X w'/\∃ N:Mn,e=.returned (.tuple #[.agg (qA N),x])/\RX C lo N w'))(hl:lo<=W0.heap.size)(hend:∀ (W:qw) (N:Mn) (gb:Nat) (y:Nat->Value),qY W0 W/\W0.heap.size<=gb/\Blk W gb (qA N) 43/\RX C lo N W->y (slot 7)=.pointer (qP gb)->y (slot 9)=x->Q .normal (sL A y sl) W):(Code.region id ops true).wp Tryz.prog Q A W0:=by
 obtain ⟨_,_,_,o0,z0⟩:=o0;obtain ⟨_,_,_,o1,z1⟩:=o1;obtain ⟨_,_,_,o2,z2⟩:=o2;obtain ⟨_,_,_,o3,z3⟩:=o3;obtain ⟨_,_,_,o4,z4⟩:=o4;obtain ⟨_,_,_,o5,z5⟩:=o5;obtain ⟨_,_,_,o6,z6⟩:=o6;obtain ⟨_,_,_,o7,z7⟩:=o7;obtain ⟨_,_,_,o8,z8⟩:=o8;obtain ⟨_,_,_,o9,z9⟩:=o9;refine kD (by kernel_rfl) (fun A listed f W=>IG 10 7 8 (PEb (.agg (qK M g0 g1 g2 g3 g4 g5 g6)) m b t C x lo) (RX C lo) slot sl W0 A listed f W) (by rw [hs];exact IG.start rfl) ?_ ?_
 .intro listed f W i K hI hi hK;have hlt:i<10:=by obtain ⟨_,o,ho,_⟩:=mem_ready.1 hi;have:=(Array.getElem?_eq_some_iff.1 ho).1;omega
  have hb:=(mem_ready.1 hi).1;have hz:=xM hl hI.b.size;rcases (show i=0\/i=1\/i=2\/i=3\/i=4\/i=5\/i=6\/i=7\/i=8\/i=9 by omega) with rfl|rfl|rfl|rfl|rfl|rfl|rfl|rfl|rfl|rfl
  .have y:=(hI.fo 8 na.1).trans ha;simp only [xK] at y;exact nB o0 rfl (w':=W) (pS (HK W hI.b).1 y) (hK _ _ (hI.next (mF (.agg (qK M g0 g1 g2 g3 g4 g5 g6)) m b t C x lo) q (by decide) (j:=0) (by omega) (by omega) (by omega) _ W brf rfl))
  .obtain ⟨z0,z1,z2⟩:=(HK W hI.b).2;have y:=(hI.fo 3 na.2).trans ht;simp only [xK] at y;refine nB o1 rfl (w':=W) (v:=.agg (qT m b t)) ?_ (hK _ _ (hI.next (mF (.agg (qK M g0 g1 g2 g3 g4 g5 g6)) m b t C x lo) q (by decide) (j:=1) (by omega) (by omega) (by omega) _ W brf rfl));go_simp
  .have t1:=bS hi o2 ⟨1,.data⟩ (z2 1 (by simp)) rfl;have v1:=hI.p 1 (by omega) (by omega) (by omega) t1;have y1:=show f.tmps.getD (slot 1) undef=.agg (qT m b t) from v1;simp only [xK] at y1;refine aI9 o2 rfl (f:=20) (args:=#[.agg (qT m b t)]) (w':=W) (by go_simp) (nD m b t W) ?_;rintro e W' ⟨rfl,hb1⟩;exact ⟨_,rfl,(hK _ _ (hI.next (mF (.agg (qK M g0 g1 g2 g3 g4 g5 g6)) m b t C x lo) q (by decide) (j:=2) (by omega) (by omega) (by omega) _ _ hb1 rfl))⟩
  .have t0:=bS hi o3 ⟨0,.data⟩ (z3 0 (by simp)) rfl;have v0:=hI.p 0 (by omega) (by omega) (by omega) t0;have t2:=bS hi o3 ⟨2,.data⟩ (z3 2 (by simp)) rfl;have v2:=hI.p 2 (by omega) (by omega) (by omega) t2;have y0:=show f.tmps.getD (slot 0) undef=.agg (qK M g0 g1 g2 g3 g4 g5 g6) from v0;simp only [xK] at y0;have y2:=show f.tmps.getD (slot 2) undef=.agg (qT m b t) from v2;simp only [xK] at y2;refine aI9 o3 rfl (f:=F) (args:=#[.agg (qK M g0 g1 g2 g3 g4 g5 g6),.agg (qT m b t)]) (w':=W) (by go_simp) (HE W hI.b hz) ?_;rintro e W' ⟨hb1,N,rfl,rx⟩;exact ⟨_,rfl,(hK _ _ (hI.next (mF (.agg (qK M g0 g1 g2 g3 g4 g5 g6)) m b t C x lo) q (by decide) (j:=3) (by omega) (by omega) (by omega) _ _ hb1 ⟨N,rfl,rx⟩))⟩
  .have t3:=bS hi o4 ⟨3,.data⟩ (z4 3 (by simp)) rfl;have v3:=hI.p 3 (by omega) (by omega) (by omega) t3;obtain ⟨N,y,rx⟩:=v3;have y:=show f.tmps.getD (slot 3) undef=_ from y;simp only [xK] at y;refine nB o4 rfl (w':=W) (v:=.tuple #[.agg (qA N),x]) ?_ (hK _ _ (hI.next (mF (.agg (qK M g0 g1 g2 g3 g4 g5 g6)) m b t C x lo) q (by decide) (j:=4) (by omega) (by omega) (by omega) _ W brf ⟨N,rfl,rx⟩));go_simp
  .have t4:=bS hi o5 ⟨4,.data⟩ (z5 4 (by simp)) rfl;have v4:=hI.p 4 (by omega) (by omega) (by omega) t4;obtain ⟨N,y,rx⟩:=v4;have y:=show f.tmps.getD (slot 4) undef=_ from y;simp only [xK] at y;refine nB o5 rfl (w':=W) (v:=.agg (qA N)) ?_ (hK _ _ (hI.next (mF (.agg (qK M g0 g1 g2 g3 g4 g5 g6)) m b t C x lo) q (by decide) (j:=5) (by omega) (by omega) (by omega) _ W brf ⟨N,rfl,rx⟩));go_simp
  .have t4:=bS hi o6 ⟨4,.data⟩ (z6 4 (by simp)) rfl;have v4:=hI.p 4 (by omega) (by omega) (by omega) t4;obtain ⟨N,y,rx⟩:=v4;have y:=show f.tmps.getD (slot 4) undef=_ from y;simp only [xK] at y;refine nB o6 rfl (w':=W) (v:=x) ?_ (hK _ _ (hI.next (mF (.agg (qK M g0 g1 g2 g3 g4 g5 g6)) m b t C x lo) q (by decide) (j:=6) (by omega) (by omega) (by omega) _ W brf rfl));go_simp
  .refine nB o7 rfl (w':=W.alloc (.cells z15 43)) (v:=.pointer (qP W.heap.size)) ?_ (hK _ _ (hI.box (mF (.agg (qK M g0 g1 g2 g3 g4 g5 g6)) m b t C x lo) q (by decide) hb));unfold z15;go_simp
  .have t7:=bS hi o8 ⟨7,.data⟩ (z8 7 (by simp)) rfl;have t5:=bS hi o8 ⟨5,.data⟩ (z8 5 (by simp)) rfl;have v5:=hI.p 5 (by omega) (by omega) (by omega) t5;obtain ⟨N,y6,rx⟩:=v5;have y6:=show f.tmps.getD (slot 5) undef=_ from y6;obtain ⟨gb,y9,e2,e3,_⟩:=hI.bx t7;have kb:=e3 ((aNi (by rw [hI.sz];omega) true).symm.trans hb);refine aQa o8 rfl (w':=stM W gb N) ?_ (hK _ _ (hI.store (mF (.agg (qK M g0 g1 g2 g3 g4 g5 g6)) m b t C x lo) (by decide) hb t7 rx y9 e2 kb));simp only [xK] at y6 y9;exact aOf kb y9 y6
  .have t6:=bS hi o9 ⟨6,.data⟩ (z9 6 (by simp)) rfl;have v6:=hI.p 6 (by omega) (by omega) (by omega) t6;have y6:=show f.tmps.getD (slot 6) undef=x from v6;simp only [xK] at y6;refine nB o9 rfl (w':=W) (v:=x) ?_ (hK _ _ (hI.next (mF (.agg (qK M g0 g1 g2 g3 g4 g5 g6)) m b t C x lo) q (by decide) (j:=9) (by omega) (by omega) (by omega) _ W brf rfl));go_simp
 intro listed f W hI hr;have hal:=aHj hr hall (hI.sz.trans hs.symm);rw [hs] at hal;obtain ⟨gb,e1,e2,_,e4⟩:=hI.bx (hal 7 (by omega));obtain ⟨N,kb,O⟩:=e4 (hal 8 (by omega));have xq:=hI.p 9 (by omega) (by omega) (by omega) (hal 9 (by omega));rw [aGo hI.fd hI.fs hI.fo];exact hend W N gb _ ⟨hI.b,e2,kb,O⟩ e1 xq
end Go.Proofs.YtncccmeomcaabaaGreat
namespace Go.Proofs.YtncccmeomcaabaaGreat
open Go.ChangeShapes Go.WideShapes Go.ChangeAt Go.RowKit Classical
variable {base fuel:Nat}{cs:List Value}{held:Bool}
set_option maxRecDepth 100000 in
theorem aA5 {H:Type}{enc:TypeId×Value->H}{w:qw}{base:Nat}{held:Bool}{fuel:Nat}{cs:List Value}{x:DataW H×List MemPlace}
 (h:DataW.trod enc Tryz.prog w base (fun _=>true) held fuel 118 cs=some x):∃ m:Md,cs=m.cells.toList/\m.mt w:=by
 obtain ⟨xs,n,_,_,hl,hlen,hf⟩:=DataW.trod_struct Tryz.underlying118 h;have e8:Tryz.prog.cellsOf 118=8:=by kernel_rfl
 rw [e8] at hl
 match xs,hlen,cs,hl with
 | [y0,y1,y2,y3,y4,y5,y6,y7],_,[c0,c1,c2,c3,c4,c5,c6,c7],_=>
 have k0:=hf 0 _ rfl;have k1:=hf 1 _ rfl;have k2:=hf 2 _ rfl;have k3:=hf 3 _ rfl;have k4:=hf 4 _ rfl;have k5:=hf 5 _ rfl;have k6:=hf 6 _ rfl;have k7:=hf 7 _ rfl;have e1:Tryz.prog.cellsOf 3=1:=by kernel_rfl
 have e2:Tryz.prog.cellsOf 9=1:=by kernel_rfl
 have e3:Tryz.prog.cellsOf 25=1:=by kernel_rfl
 have e4:Tryz.prog.cellsOf 114=1:=by kernel_rfl
 have e5:Tryz.prog.cellsOf 28=1:=by kernel_rfl
 have e6:Tryz.prog.cellsOf 115=1:=by kernel_rfl
 have e7:Tryz.prog.cellsOf 116=1:=by kernel_rfl
 simp [e1,e2,e3,e4,e5,e6,e7] at k0 k1 k2 k3 k4 k5 k6 k7;obtain ⟨nm,h0,_,w0⟩:=DataW.trod_string Tryz.underlying9 k0;obtain ⟨ta,tn,tc,tz,h1,w1⟩:=jL k1;obtain ⟨ba,bn,bc,bl,h2,w2⟩:=aDz k2;obtain ⟨da,dn,dc,dz,h3,w3⟩:=jQ k3;obtain ⟨bss,h4,_,w4⟩:=DataW.trod_int Tryz.underlying3 k4;obtain ⟨ra,rn,rc,rz,h5,w5⟩:=jL k5;obtain ⟨ia,im,ic,ss,h6,w6⟩:=aD6 k6;obtain ⟨ea,en,ec,es,h7,w7⟩:=aD9 k7;simp at h0 h1 h2 h3 h4 h5 h6 h7;subst h0 h1 h2 h3 h4 h5 h6 h7;exact ⟨⟨nm,ta,tn,tc,tz,ba,bn,bc,bl,da,dn,dc,dz,bss,ra,rn,rc,rz,ia,im,ic,ss,ea,en,ec,es⟩,rfl,w0,w1,w2,w3,wf_i64 w4,w5,w6,w7⟩
set_option maxRecDepth 100000 in
theorem aEt {H:Type}{enc:TypeId×Value->H}{w:qw}{x:DataW H×List MemPlace}
 (h:DataW.trod enc Tryz.prog w base (fun _=>true) held fuel 22 cs=some x):∃ a n cap ms,cs=[qS a n cap]/\MS w a n cap ms:=by
 have e1:Tryz.prog.cellsOf 118=8:=by kernel_rfl
 rcases Deep.open_slice Tryz.underlying22 h with ⟨hcs,_⟩|⟨a,len,cap,m,n,D,Pl,hcs,hb,hl,hm,hmm,hx,hd⟩
 .exact ⟨none,0,0,[],hcs,rfl,Nat.zero_le _,fun h=>absurd rfl h,fun i hi=>by omega,aN⟩
 .simp at hmm;rw [hmm] at hd;rw [e1] at hd
  haveI:Inhabited Md:=⟨aK⟩
  obtain ⟨G,hG⟩:=Deep.choose_lt (α:=Md) (p:=fun i g=>(∃ cs',w.cells? base (a.add (i*8)) 8=some cs'/\cs'=g.cells.toList)/\g.mt w) (n:=len) (fun i hi=>by
   obtain ⟨cs',h1,h2⟩:=hd i (by omega);obtain ⟨s,e,hI⟩:=aA5 h2
   exact ⟨s,⟨cs',h1,e⟩,hI⟩)
  have hgi:∀ i,i<len->((List.range len).map G).getD i aK=G i:=fun i hi=>by simp [List.getD_eq_getElem?_getD,hi]
  refine ⟨some a,len,cap,(List.range len).map G,hcs,by simp,by omega,?_,fun i hi=>by rw [hgi i hi];exact (hG i hi).2,hl⟩;intro hn;obtain ⟨b,off,spot⟩:=a
  have hspot:spot=none:=by
   obtain ⟨⟨cs',h1,h2⟩,_⟩:=hG 0 (by omega);have:=(World.cells?_some h1).2.2 0 (by omega);rw [h2] at this;simpa [Addr.add,Md.cells] using World.cell?_spot this
  subst hspot;refine ⟨b,off,rfl,fun i hi=>?_⟩;obtain ⟨⟨cs',h1,h2⟩,_⟩:=hG i hi;have hc:=(World.cells?_some h1).2.2;rw [h2] at hc;rw [hgi i hi];simp only [aF8] at hc;exact ⟨hc 0 (by omega),hc 1 (by omega),hc 2 (by omega),hc 3 (by omega),hc 4 (by omega),hc 5 (by omega),hc 6 (by omega),hc 7 (by omega)⟩
set_option maxRecDepth 100000 in
theorem aFh {H:Type}{enc:TypeId×Value->H}{w:qw}{x:DataW H×List MemPlace}
 (h:DataW.trod enc Tryz.prog w base (fun _=>true) held fuel 25 cs=some x):∃ a n cap zs,cs=[qS a n cap]/\IS w a n cap zs:=by
 rcases open_ints Tryz.underlying25 Tryz.underlying3 (by kernel_rfl) h with ⟨hcs,_⟩|⟨x,l,c,zs,hcs,_,hl,hm,hz,_,hcell,hwz⟩
 .exact ⟨none,0,0,[],hcs,rfl,Nat.zero_le _,by simp,fun h=>absurd rfl h,aN⟩
 .simp at hz;refine ⟨some x,l,c,zs.take l,hcs,by simp;omega,by omega,fun z hz'=>wf_i64 (hwz z (List.mem_of_mem_take hz')),fun hl0=>?_,hl⟩;obtain ⟨b,off,spot⟩:=x;have hspot:spot=none:=by simpa [Addr.add] using World.cell?_spot (hcell 0 (by omega))
  subst hspot;refine ⟨b,off,rfl,fun i hi=>?_⟩;have:=hcell i (by omega)
  have ea:(Addr.add (qR b off) i)=(qR b (off+i)):=by
   simp only [Addr.add];split
   .next h=>subst h;rfl
   .rfl
  rw [ea] at this;rw [this];simp [List.getD_eq_getElem?_getD,hi]
end Go.Proofs.YtncccmeomcaabaaGreat
namespace Go.Proofs.YtncccmeomcaabaaGreat
open Go.ChangeShapes Go.WideShapes Go.ChangeAt Go.RowKit Classical
variable {base fuel:Nat}{cs:List Value}{held:Bool}
set_option maxRecDepth 100000 in
theorem aMd {H:Type}{enc:TypeId×Value->H}{w:qw}{base:Nat}{held:Bool}{spare:Nat->Bool}{fuel:Nat}{cs:List Value}{x:DataW H×List MemPlace}
 (h:DataW.trod enc Tryz.prog w base spare held fuel 144 cs=some x):∃ g:SlT,cs=bY g:=by
 obtain ⟨xs,n,_,_,hl,hlen,hf⟩:=DataW.trod_struct Tryz.underlying144 h;have e6:Tryz.prog.cellsOf 144=4:=by kernel_rfl
 rw [e6] at hl
 match xs,hlen,cs,hl with
 | [y0,y1,y2,y3],_,[c0,c1,c2,c3],_=>
 have k0:=hf 0 _ rfl;have k1:=hf 1 _ rfl;have k2:=hf 2 _ rfl;have k3:=hf 3 _ rfl;have e3:Tryz.prog.cellsOf 3=1:=by kernel_rfl
 have e4:Tryz.prog.cellsOf 4=1:=by kernel_rfl
 simp [e3,e4] at k0 k1 k2 k3;obtain ⟨a0,h0,_⟩:=DataW.trod_bool Tryz.underlying4 k0;obtain ⟨a1,h1,_,wb⟩:=DataW.trod_int Tryz.underlying3 k1;obtain ⟨a2,h2,_,wc⟩:=DataW.trod_int Tryz.underlying3 k2;obtain ⟨a3,h3,_,wd⟩:=DataW.trod_int Tryz.underlying3 k3;simp at h0 h1 h2 h3;subst h0 h1 h2 h3;exact ⟨(a0,a1,a2,a3),rfl⟩
set_option maxRecDepth 100000 in
theorem aF9 {H:Type}{enc:TypeId×Value->H}{w:qw}{x:DataW H×List MemPlace}
 (h:DataW.trod enc Tryz.prog w base (fun _=>true) held fuel 31 cs=some x):∃ a n cap zs,cs=[qS a n cap]/\QS bY zSl w a n cap zs:=by
 have e1:Tryz.prog.cellsOf 144=4:=by kernel_rfl
 rcases Deep.open_slice Tryz.underlying31 h with ⟨hcs,_⟩|⟨a,len,cap,m,n,D,Pl,hcs,hb,hl,hm,hmm,hx,hd⟩
 .exact ⟨none,0,0,[],hcs,rfl,xC _,fun h=>absurd rfl h,aN⟩
 .simp at hmm;rw [hmm] at hd;rw [e1] at hd
  obtain ⟨G,hG⟩:=Deep.choose_lt (α:=SlT) (p:=fun i g=>∃ cs',w.cells? base (a.add (i*4)) 4=some cs'/\cs'=bY g) (n:=len) (fun i hi=>by
   obtain ⟨cs',h1,h2⟩:=hd i (by omega);obtain ⟨s,e⟩:=aMd h2
   exact ⟨s,cs',h1,e⟩)
  have hgi:∀ i,i<len->((List.range len).map G).getD i zSl=G i:=fun i hi=>by simp [xB,hi]
  refine ⟨some a,len,cap,(List.range len).map G,hcs,by simp,by omega,?_,hl⟩;intro hn;obtain ⟨b,off,spot⟩:=a
  have hspot:spot=none:=by
   obtain ⟨cs',h1,h2⟩:=hG 0 (by omega);have:=(World.cells?_some h1).2.2 0 (by omega);rw [h2] at this;simpa [Addr.add,bY] using World.cell?_spot this
  subst hspot;refine ⟨b,off,rfl,fun i hi j v hv=>?_⟩;obtain ⟨cs',h1,h2⟩:=hG i hi;have hc:=(World.cells?_some h1).2.2;rw [h2] at hc;rw [hgi i hi] at hv;simp only [aF8] at hc
  have hj:j<4:=by
   rcases Nat.lt_or_ge j 4 with h|h
   .exact h
   .rw [xO (by rw [bO];exact h)] at hv;cases hv
  rw [hc j (by omega),<- hv]
set_option maxRecDepth 100000 in
theorem aMg {H:Type}{enc:TypeId×Value->H}{w:qw}{base:Nat}{held:Bool}{spare:Nat->Bool}{fuel:Nat}{cs:List Value}{x:DataW H×List MemPlace}
 (h:DataW.trod enc Tryz.prog w base spare held fuel 146 cs=some x):∃ g:FrT,cs=bC g:=by
 obtain ⟨xs,n,_,_,hl,hlen,hf⟩:=DataW.trod_struct Tryz.underlying146 h;have e6:Tryz.prog.cellsOf 146=4:=by kernel_rfl
 rw [e6] at hl
 match xs,hlen,cs,hl with
 | [y0,y1,y2,y3],_,[c0,c1,c2,c3],_=>
 have k0:=hf 0 _ rfl;have k1:=hf 1 _ rfl;have k2:=hf 2 _ rfl;have k3:=hf 3 _ rfl;have e3:Tryz.prog.cellsOf 3=1:=by kernel_rfl
 have e4:Tryz.prog.cellsOf 4=1:=by kernel_rfl
 simp [e3,e4] at k0 k1 k2 k3;obtain ⟨a0,h0,_,wa⟩:=DataW.trod_int Tryz.underlying3 k0;obtain ⟨a1,h1,_,wb⟩:=DataW.trod_int Tryz.underlying3 k1;obtain ⟨a2,h2,_,wc⟩:=DataW.trod_int Tryz.underlying3 k2;obtain ⟨a3,h3,_,wd⟩:=DataW.trod_int Tryz.underlying3 k3;simp at h0 h1 h2 h3;subst h0 h1 h2 h3;exact ⟨(a0,a1,a2,a3),rfl⟩
set_option maxRecDepth 100000 in
theorem aGb {H:Type}{enc:TypeId×Value->H}{w:qw}{x:DataW H×List MemPlace}
 (h:DataW.trod enc Tryz.prog w base (fun _=>true) held fuel 32 cs=some x):∃ a n cap zs,cs=[qS a n cap]/\QS bC zFr w a n cap zs:=by
 have e1:Tryz.prog.cellsOf 146=4:=by kernel_rfl
 rcases Deep.open_slice Tryz.underlying32 h with ⟨hcs,_⟩|⟨a,len,cap,m,n,D,Pl,hcs,hb,hl,hm,hmm,hx,hd⟩
 .exact ⟨none,0,0,[],hcs,rfl,xC _,fun h=>absurd rfl h,aN⟩
 .simp at hmm;rw [hmm] at hd;rw [e1] at hd
  obtain ⟨G,hG⟩:=Deep.choose_lt (α:=FrT) (p:=fun i g=>∃ cs',w.cells? base (a.add (i*4)) 4=some cs'/\cs'=bC g) (n:=len) (fun i hi=>by
   obtain ⟨cs',h1,h2⟩:=hd i (by omega);obtain ⟨s,e⟩:=aMg h2
   exact ⟨s,cs',h1,e⟩)
  have hgi:∀ i,i<len->((List.range len).map G).getD i zFr=G i:=fun i hi=>by simp [xB,hi]
  refine ⟨some a,len,cap,(List.range len).map G,hcs,by simp,by omega,?_,hl⟩;intro hn;obtain ⟨b,off,spot⟩:=a
  have hspot:spot=none:=by
   obtain ⟨cs',h1,h2⟩:=hG 0 (by omega);have:=(World.cells?_some h1).2.2 0 (by omega);rw [h2] at this;simpa [Addr.add,bC] using World.cell?_spot this
  subst hspot;refine ⟨b,off,rfl,fun i hi j v hv=>?_⟩;obtain ⟨cs',h1,h2⟩:=hG i hi;have hc:=(World.cells?_some h1).2.2;rw [h2] at hc;rw [hgi i hi] at hv;simp only [aF8] at hc
  have hj:j<4:=by
   rcases Nat.lt_or_ge j 4 with h|h
   .exact h
   .rw [xO (by rw [dJ];exact h)] at hv;cases hv
  rw [hc j (by omega),<- hv]
theorem aN8 {α:Type}{cs:Array α}(h:cs.size=15):∃ c0 c1 c2 c3 c4 c5 c6 c7 c8 c9 c10 c11 c12 c13 c14,cs=#[c0,c1,c2,c3,c4,c5,c6,c7,c8,c9,c10,c11,c12,c13,c14]:=by
 obtain ⟨l⟩:=cs
 match l,h with
 | [c0,c1,c2,c3,c4,c5,c6,c7,c8,c9,c10,c11,c12,c13,c14],_=>exact ⟨c0,c1,c2,c3,c4,c5,c6,c7,c8,c9,c10,c11,c12,c13,c14,rfl⟩
theorem aBv {H:Type}{enc:TypeId×Value->H}{w:qw}{base:Nat}{held:Bool}{spare:Nat->Bool}{fuel:Nat}{c0 c1 c2 c3:Value}{x:DataW H×List MemPlace}
 (h:DataW.trod enc Tryz.prog w base spare held fuel 24 [c0,c1,c2,c3]=some x):∃ a0 a1 a2 a3,c0=qI a0/\c1=qI a1/\c2=qI a2/\c3=qI a3:=by
 obtain ⟨xs,n,_,_,hl,hlen,hf⟩:=DataW.trod_struct Tryz.underlying24 h
 match xs,hlen with
 | [y0,y1,y2,y3],_=>
 have k0:=hf 0 _ rfl;have k1:=hf 1 _ rfl;have k2:=hf 2 _ rfl;have k3:=hf 3 _ rfl;have e3:Tryz.prog.cellsOf 3=1:=by kernel_rfl
 simp [e3] at k0 k1 k2 k3;obtain ⟨a0,h0,_,_⟩:=DataW.trod_int Tryz.underlying3 k0;obtain ⟨a1,h1,_,_⟩:=DataW.trod_int Tryz.underlying3 k1;obtain ⟨a2,h2,_,_⟩:=DataW.trod_int Tryz.underlying3 k2;obtain ⟨a3,h3,_,_⟩:=DataW.trod_int Tryz.underlying3 k3;simp at h0 h1 h2 h3;exact ⟨a0,a1,a2,a3,h0,h1,h2,h3⟩
theorem aFu {H:Type}{enc:TypeId×Value->H}{w:qw}{base:Nat}{held:Bool}{fuel:Nat}{c0 c1:Value}{x:DataW H×List MemPlace}
 (h:DataW.trod enc Tryz.prog w base (fun _=>true) held fuel 27 [c0,c1]=some x):∃ pc a n c zs,c0=qI pc/\c1=qS a n c/\IS w a n c zs:=by
 obtain ⟨xs,n,_,_,hl,hlen,hf⟩:=DataW.trod_struct Tryz.underlying27 h
 match xs,hlen with
 | [y0,y1],_=>
 have k0:=hf 0 _ rfl;have k1:=hf 1 _ rfl;have e3:Tryz.prog.cellsOf 3=1:=by kernel_rfl
 have e4:Tryz.prog.cellsOf 25=1:=by kernel_rfl
 simp [e3,e4] at k0 k1;obtain ⟨a0,h0,_,_⟩:=DataW.trod_int Tryz.underlying3 k0;obtain ⟨a1,n1,d1,x1,h1,b1⟩:=aFh k1;simp at h0 h1;exact ⟨a0,a1,n1,d1,x1,h0,h1,b1⟩
theorem aIn {H:Type}{enc:TypeId×Value->H}{w:qw}{base:Nat}{held:Bool}{fuel:Nat}{c0 c1 c2:Value}{x:DataW H×List MemPlace}
 (h:DataW.trod enc Tryz.prog w base (fun _=>true) held fuel 30 [c0,c1,c2]=some x):∃ a1 n1 d1 x1 a2 n2 d2 x2 a3 n3 d3 x3,c0=qS a1 n1 d1/\c1=qS a2 n2 d2/\c2=qS a3 n3 d3/\BS w a1 n1 d1 x1/\BS w a2 n2 d2 x2/\BS w a3 n3 d3 x3:=by
 obtain ⟨xs,n,_,_,hl,hlen,hf⟩:=DataW.trod_struct Tryz.underlying30 h
 match xs,hlen with
 | [y0,y1,y2],_=>
 have k0:=hf 0 _ rfl;have k1:=hf 1 _ rfl;have k2:=hf 2 _ rfl;have e3:Tryz.prog.cellsOf 28=1:=by kernel_rfl
 simp [e3] at k0 k1 k2;obtain ⟨a1,n1,d1,x1,e1,b1⟩:=jQ k0;obtain ⟨a2,n2,d2,x2,e2,b2⟩:=jQ k1;obtain ⟨a3,n3,d3,x3,e3,b3⟩:=jQ k2;simp at e1 e2 e3;exact ⟨a1,n1,d1,x1,a2,n2,d2,x2,a3,n3,d3,x3,e1,e2,e3,b1,b2,b3⟩
set_option maxRecDepth 100000 in
theorem aA3 {H:Type}{enc:TypeId×Value->H}{w:qw}{base b0:Nat}{held:Bool}{r:Reach}{v:Value}{d:DataW H}{p:List MemPlace}
 (hv:Value.okWide Tryz.prog w r b0 34 v) (h:DataW.Trod enc Tryz.prog w base (fun _=>true) held 34 v d p):
 ∃ M:Mn,v=.agg (qA M)/\MnT w M:=by
 obtain ⟨cs,rfl,hsz⟩:=okWide_struct Tryz.underlying34 hv;obtain ⟨c0,c1,c2,c3,c4,c5,c6,c7,c8,c9,c10,c11,c12,c13,c14,rfl⟩:=aN8 (hsz.trans (by kernel_rfl));obtain ⟨fuel,hf⟩:=h;obtain ⟨xs,n,_,_,hl,hlen,hf⟩:=DataW.trod_struct Tryz.underlying34 hf
 match xs,hlen with
 | [y0,y1,y2,y3,y4,y5,y6,y7,y8],_=>
 have k0:=hf 0 _ rfl;have k1:=hf 1 _ rfl;have k2:=hf 2 _ rfl;have k3:=hf 3 _ rfl;have k4:=hf 4 _ rfl;have k5:=hf 5 _ rfl;have k6:=hf 6 _ rfl;have k7:=hf 7 _ rfl;have k8:=hf 8 _ rfl;have e1:Tryz.prog.cellsOf 3=1:=by kernel_rfl
 have e2:Tryz.prog.cellsOf 22=1:=by kernel_rfl
 have e3:Tryz.prog.cellsOf 24=4:=by kernel_rfl
 have e4:Tryz.prog.cellsOf 27=2:=by kernel_rfl
 have e5:Tryz.prog.cellsOf 30=3:=by kernel_rfl
 have e6:Tryz.prog.cellsOf 31=1:=by kernel_rfl
 have e7:Tryz.prog.cellsOf 32=1:=by kernel_rfl
 simp [Value.cells,e1,e2,e3,e4,e5,e6,e7] at k0 k1 k2 k3 k4 k5 k6 k7 k8;obtain ⟨ma,mn,mc,ms,h0,w0⟩:=aEt k0;obtain ⟨cs,cw,ck,cd,h1a,h1b,h1c,h1d⟩:=aBv k1;obtain ⟨pc,ka,kn,kc,kz,h2a,h2b,w2⟩:=aFu k2;obtain ⟨fa,fn,fc,fz,ra,rn,rc,rz,oa,on,oc,oz,h3a,h3b,h3c,w3,w4,w5⟩:=aIn k3;obtain ⟨md,h4,_,_⟩:=DataW.trod_int Tryz.underlying3 k4;obtain ⟨bk,h5,_,_⟩:=DataW.trod_int Tryz.underlying3 k5;obtain ⟨la,ln,lc,lz,h6,w6⟩:=aF9 k6;obtain ⟨ha,hn,hc,hz,h7,w7⟩:=aGb k7;obtain ⟨tn,h8,_,_⟩:=DataW.trod_int Tryz.underlying3 k8;simp at h0 h4 h5 h6 h7 h8;subst h0 h1a h1b h1c h1d h2a h2b h3a h3b h3c h4 h5 h6 h7 h8;exact ⟨⟨ma,mn,mc,ms,cs,cw,ck,cd,pc,ka,kn,kc,kz,fa,fn,fc,fz,ra,rn,rc,rz,oa,on,oc,oz,md,bk,la,ln,lc,lz,ha,hn,hc,hz,tn⟩,rfl,w0,w2,w3,w4,w5,w6,w7⟩
