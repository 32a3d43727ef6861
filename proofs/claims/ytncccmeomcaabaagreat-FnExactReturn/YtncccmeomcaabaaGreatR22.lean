import Derived.ChangeOld
import Derived.OpenShut
import Derived.ProofKit
import Derived.ShutString
import Derived.Test.YtncccmeomcaabaaGreatR16
import Derived.Test.YtncccmeomcaabaaGreatR15
set_option linter.all false
set_option maxHeartbeats 64000000
namespace Go.Proofs.YtncccmeomcaabaaGreat
open Go.RowKit Classical
set_option maxRecDepth 100000
variable {b d m s w:Int}{k:Nat}{ps:List PMod}{xs:List SlT}
structure Mn where
 ma:qO
 mn:Nat
 mc:Nat
 ms:List Md
 cs:Int
 cw:Int
 ck:Int
 cd:Int
 pc:Int
 ka:qO
 kn:Nat
 kc:Nat
 kz:List Int
 fa:qO
 fn:Nat
 fc:Nat
 fz:List Int
 ra:qO
 rn:Nat
 rc:Nat
 rz:List Int
 oa:qO
 on:Nat
 oc:Nat
 oz:List Int
 md:Int
 bk:Int
 la:qO
 ln:Nat
 lc:Nat
 lz:List SlT
 ha:qO
 hn:Nat
 hc:Nat
 hz:List FrT
 tn:Int
abbrev qA (M:Mn):Array Value:=#[.slice M.ma M.mn M.mc,.int .i64 M.cs,.int .i64 M.cw,.int .i64 M.ck,.int .i64 M.cd,.int .i64 M.pc,.slice M.ka M.kn M.kc,.slice M.fa M.fn M.fc,.slice M.ra M.rn M.rc,.slice M.oa M.on M.oc,.int .i64 M.md,.int .i64 M.bk,.slice M.la M.ln M.lc,.slice M.ha M.hn M.hc,.int .i64 M.tn]
abbrev qX (M:Mn)(a:Option Addr)(b c:Nat)(d:Option Addr)(e f:Nat)(g:Option Addr)(h i:Nat)(j:Option Addr)(k l:Nat)(m:Option Addr)(n o:Nat)(p:Option Addr)(q r:Nat)(s:Option Addr)(t u:Nat):Array Value:=#[.slice a b c,.int .i64 M.cs,.int .i64 M.cw,.int .i64 M.ck,.int .i64 M.cd,.int .i64 M.pc,.slice d e f,.slice g h i,.slice j k l,.slice m n o,.int .i64 M.md,.int .i64 M.bk,.slice p q r,.slice s t u,.int .i64 M.tn]
abbrev qK (M:Mn)(a b c d e f g:Nat):Array Value:=#[.slice (some (qR a 0)) M.mn M.mn,.int .i64 M.cs,.int .i64 M.cw,.int .i64 M.ck,.int .i64 M.cd,.int .i64 M.pc,.slice (some (qR b 0)) M.kn M.kn,.slice (some (qR c 0)) M.fn M.fn,.slice (some (qR d 0)) M.rn M.rn,.slice (some (qR e 0)) M.on M.on,.int .i64 M.md,.int .i64 M.bk,.slice (some (qR f 0)) M.ln M.ln,.slice (some (qR g 0)) M.hn M.hn,.int .i64 M.tn]
structure MnT (w:qw)(M:Mn):Prop where
 m:MS w M.ma M.mn M.mc M.ms
 k:IS w M.ka M.kn M.kc M.kz
 f:BS w M.fa M.fn M.fc M.fz
 r:BS w M.ra M.rn M.rc M.rz
 o:BS w M.oa M.on M.oc M.oz
 l:QS bR zSl w M.la M.ln M.lc M.lz
 h:QS cO zFr w M.ha M.hn M.hc M.hz
theorem MnT.bw {w w':qw}{M:Mn}(h:MnT w M)(hb:qY w w'):MnT w' M:=⟨h.m.bw hb,h.k.bw hb,h.f.bw hb,h.r.bw hb,h.o.bw hb,h.l.bw hb,h.h.bw hb⟩
structure MnB (M:Mn):Prop where
 n:M.mn<=1048576
 m:∀ i,i<M.mn->(M.ms.getD i aK).size<=1048576
 k:M.kn<=1048576
 b:M.fn+M.rn+M.on<=1048576
 l:M.ln<=1048576
 h:M.hn<=1048576
 s:M.mn+upS (fun j=>(M.ms.getD j aK).size) M.mn+M.kn+M.fn+M.rn+M.on+M.ln+M.hn<=1048576
theorem Blk.mc {w:qw}{b:Nat}{t:TypeId}{v0 v1 v2 v3 v4 v5 v6 v7 v8 v9 v10 v11 v12 v13 v14:Value}(h:Blk w b #[v0,v1,v2,v3,v4,v5,v6,v7,v8,v9,v10,v11,v12,v13,v14] t):w.cell? (qR b 0)=some v0/\w.cell? (qR b 1)=some v1/\w.cell? (qR b 2)=some v2/\w.cell? (qR b 3)=some v3/\w.cell? (qR b 4)=some v4/\w.cell? (qR b 5)=some v5/\w.cell? (qR b 6)=some v6/\w.cell? (qR b 7)=some v7/\w.cell? (qR b 8)=some v8/\w.cell? (qR b 9)=some v9/\w.cell? (qR b 10)=some v10/\w.cell? (qR b 11)=some v11/\w.cell? (qR b 12)=some v12/\w.cell? (qR b 13)=some v13/\w.cell? (qR b 14)=some v14:=⟨h.cell 0,h.cell 1,h.cell 2,h.cell 3,h.cell 4,h.cell 5,h.cell 6,h.cell 7,h.cell 8,h.cell 9,h.cell 10,h.cell 11,h.cell 12,h.cell 13,h.cell 14⟩
theorem uT (M:Mn)(w:qw)(h:MnT w M):
 qC 7 #[.agg (qA M),qI 1048576] w fun e w'=>∃ z:Int,e=.returned (qI z)/\(0<=z->MnB M)/\qY w w':=by
 have k0:=Blk.new w (qA M) 34;have B0:qY w (w.alloc (.cells (qA M) 34)):=bal;have H1:=zh (uS M.ma M.mn M.mc M.ms 1048576 _ (h.m.bw B0) (by omega) (by omega));have H2:=zh (fun (z:Int) (W:qw) (z0:0<=z) (z1:z<=1048576)=>xA (fun q=>aG0 M.pc M.ka M.kn M.kc z W z0 z1 h.k.2.1 q) (fun q=>aGz M.pc M.ka M.kn M.kc z W z0 z1 h.k.2.1 q));have H3:=zh (fun (z:Int) (W:qw) (z0:0<=z) (z1:z<=1048576)=>xA (fun q=>aIi M.fa M.ra M.oa M.fn M.fc M.rn M.rc M.on M.oc z W z0 z1 h.f.2.1 h.r.2.1 h.o.2.1 q) (fun q=>aIh M.fa M.ra M.oa M.fn M.fc M.rn M.rc M.on M.oc z W z0 z1 h.f.2.1 h.r.2.1 h.o.2.1 q));have H4:=zh (fun (z:Int) (W:qw) (z0:0<=z) (z1:z<=1048576)=>aBp M.la M.ln M.lc z W z0 z1 h.l.2.1);have H5:=zh (fun (z:Int) (W:qw) (z0:0<=z) (z1:z<=1048576)=>yW M.ha M.hn M.hc z W z0 z1 h.h.2.1);have HUP:=zh (fun i hi=>yN (fun j=>(M.ms.getD j aK).size) M.mn i hi);unfold szR at H1 H4 H5;have HK:=zh (xA B0 k0);clear B0 k0 h;generalize hq1:M.mn+upS (fun j=>(M.ms.getD j aK).size) M.mn=q1 at *;have HQ1:=zh hq1;clear hq1;by_cases c1:(1048576:Int)<(q1:Int)
 .rw [if_pos c1] at H1;go_enter Tryz.func7,Tryz.ntmps7
  go_wp2_with fail
  refine H1.o.mono ?_;rintro e w1 ⟨rfl,hb1⟩;go_wp2;go_ret;exact ⟨-1,rfl,fun h=>absurd h (by decide),HK.o.1.trans (hb1.mono HK.o.1.size)⟩
 rw [if_neg c1] at H1;obtain ⟨z1,hz1⟩:∃ z1:Int,z1=1048576-q1:=⟨_,rfl⟩;rw [<- hz1] at H1;have d1:¬ z1<0:=by omega
 have e1:z1<=1048576:=by omega
 have HZ1:=zh hz1;clear hz1;go_enter Tryz.func7,Tryz.ntmps7
 go_wp2_with fail
 refine H1.o.mono ?_;rintro e w1 ⟨rfl,hb1⟩;have B1:=HK.o.1.trans (hb1.mono HK.o.1.size);have k1:=HK.o.2.bw hb1;have HBK:=zh (xA B1 k1);clear hb1 HK H1 B1;have y5:=k1.e5;have y6:=k1.e6;clear k1;by_cases c2:z1<(M.kn:Int)
 .go_wp2_with fail
  refine ((H2.o z1 _ (by omega) e1).2 c2).mono ?_;rintro e w2 ⟨rfl,hb2⟩;go_wp2;go_ret;exact ⟨-1,rfl,fun h=>absurd h (by decide),HBK.o.1.trans (hb2.mono HBK.o.1.size)⟩
 obtain ⟨z2,hz2⟩:∃ z2:Int,z2=z1-M.kn:=⟨_,rfl⟩;have d2:¬ z2<0:=by omega
 have e2:z2<=1048576:=by omega
 have HZ2:=zh hz2;go_wp2_with fail
 refine ((H2.o z1 _ (by omega) e1).1 (by omega)).mono ?_;rintro e w2 ⟨rfl,hb2⟩;rw [<- hz2];have B2:=HBK.o.1.trans (hb2.mono HBK.o.1.size);have k2:=HBK.o.2.bw hb2;clear hb2 HBK y5 y6 hz2 H2;have HBK:=zh (xA B2 k2);clear B2;have y7:=k2.e7;have y8:=k2.e8;have y9:=k2.e9;clear k2;by_cases c3:z2<(M.fn:Int)+M.rn+M.on
 .go_wp2_with fail
  refine ((H3.o z2 _ (by omega) e2).2 c3).mono ?_;rintro e w3 ⟨rfl,hb3⟩;go_wp2;go_ret;exact ⟨-1,rfl,fun h=>absurd h (by decide),HBK.o.1.trans (hb3.mono HBK.o.1.size)⟩
 obtain ⟨z3,hz3⟩:∃ z3:Int,z3=z2-M.fn-M.rn-M.on:=⟨_,rfl⟩;have d3:¬ z3<0:=by omega
 have e3:z3<=1048576:=by omega
 have HZ3:=zh hz3;go_wp2_with fail
 refine ((H3.o z2 _ (by omega) e2).1 (by omega)).mono ?_;rintro e w3 ⟨rfl,hb3⟩;rw [<- hz3];have B3:=HBK.o.1.trans (hb3.mono HBK.o.1.size);have k3:=HBK.o.2.bw hb3;clear hb3 HBK y7 y8 y9 hz3 H3;have y12:=k3.e12;have y13:=k3.e13;have HB:=zh B3;clear k3 B3;go_wp2_with fail
 refine (H4.o z3 _ (by omega) e3).mono ?_;rintro e w4 ⟨rfl,rfl⟩;by_cases c4:z3<(M.ln:Int)
 .rw [if_pos c4];go_wp2;go_ret;exact ⟨-1,rfl,fun h=>absurd h (by decide),HB.o⟩
 rw [if_neg c4];obtain ⟨z4,hz4⟩:∃ z4:Int,z4=z3-M.ln:=⟨_,rfl⟩;have d4:¬ z4<0:=by omega
 have e4:z4<=1048576:=by omega
 have HZ4:=zh hz4;rw [<- hz4];clear hz4 H4;go_wp2_with fail
 refine (H5.o z4 _ (by omega) e4).mono ?_;rintro e w5 ⟨rfl,rfl⟩;by_cases c5:z4<(M.hn:Int)
 .rw [if_pos c5];go_wp2;go_ret;exact ⟨-1,rfl,fun h=>absurd h (by decide),HB.o⟩
 rw [if_neg c5];have d5:¬ z4-(M.hn:Int)<0:=by omega
 have HF:=zh (show MnB M from by
  have h1:=HQ1.o;have h2:=HZ1.o;have h3:=HZ2.o;have h4:=HZ3.o;have h5:=HZ4.o
  exact ⟨by omega,fun i hi=>by have:=HUP.o i hi;omega,by omega,by omega,by omega,by omega,by omega⟩)
 go_wp2;go_ret;exact ⟨_,rfl,fun _=>HF.o,HB.o⟩
theorem aC4 (x0:Bool)(x1 x2 x3:Int)(w:qw):qC 101 #[.agg #[.bool x0,qI x1,qI x2,qI x3],.agg #[.bool x0,qI x1,qI x2,qI x3]] w (qB w (.bool true)):=by
 have hB:qY w ((w.alloc (.cells #[.bool x0,qI x1,qI x2,qI x3] 142)).alloc (.cells #[.bool x0,qI x1,qI x2,qI x3] 142)):=bal.alloc (by simp) _;have h0:(x0 !=x0)=false:=by cases x0<;>rfl
 have h1:(x1 !=x1)=false:=by simp
 have h2:(x2 !=x2)=false:=by simp
 have h3:(x3 !=x3)=false:=by simp
 go_enter Tryz.func101,Tryz.ntmps101
 go_wp2;go_ret;exact ⟨rfl,hB⟩
theorem aA1 (a a':qO)(n c c':Nat)(xs:List SlT)(w:qw)(h:QS bR zSl w a n c xs)(h':QS bR zSl w a' n c' xs):
 qC 46 #[qS a n c,qS a' n c'] w (qB w (.bool true)):=by
 have hne:((n:Int) !=(n:Int))=false:=by simp
 have hmx:=h.2.1;unfold maxLen at hmx;have HH:=zh (xA h h');clear h h';go_enter Tryz.func46,Tryz.ntmps46
 go_wp2;go_loopw [5] (fun i wr=>∃ k:Nat,k<=n/\i=qI k/\qY w wr) (qf n)
 .exact ⟨0,xC _,rfl,brf⟩
 .obtain ⟨k,hk,rfl,hB⟩:=hrel;by_cases hlt:k<n
  .have hlt':(k:Int)<(n:Int):=by omega
   obtain ⟨b,f,rfl,q0,q1,q2,q3⟩:=(HH.o.1.bw hB).at k hlt _ _ _ _ rfl;obtain ⟨b',f',rfl,p0,p1,p2,p3⟩:=(HH.o.2.bw hB).at k hlt _ _ _ _ rfl;generalize xs.getD k zSl=r at *;obtain ⟨x0,x1,x2,x3⟩:=r;simp only at q0 q1 q2 q3 p0 p1 p2 p3;have hlb:=xD _ _ q1;have hlb':=xD _ _ p1;have HB:=zh hB;clear hB;go_wp2
   go_region_held3 (fun w'=>w'.cell? (qR b (f+k*4))=some (.bool x0)/\w'.cell? (qR b (f+k*4+1))=some (qI x1)/\w'.cell? (qR b (f+k*4+2))=some (qI x2)/\w'.cell? (qR b (f+k*4+3))=some (qI x3)/\w'.cell? (qR b' (f'+k*4))=some (.bool x0)/\w'.cell? (qR b' (f'+k*4+1))=some (qI x1)/\w'.cell? (qR b' (f'+k*4+2))=some (qI x2)/\w'.cell? (qR b' (f'+k*4+3))=some (qI x3)) (go_keep)
    (first
      | (go_at_call 101;refine (aC4 x0 x1 x2 x3 _).mono ?_;rintro e w1 ⟨rfl,hb1⟩;replace hb1:=dF hb1;have key:∀ g o v,wr.cell? (qR g o)=some v->w1.cell? (qR g o)=some v:=(fun g o v hv=>(hb1.cell (xD wr _ hv)).trans hv);have r0:=key _ _ _ q0;have r1:=key _ _ _ q1;have r2:=key _ _ _ q2;have r3:=key _ _ _ q3;have s0:=key _ _ _ p0;have s1:=key _ _ _ p1;have s2:=key _ _ _ p2;have s3:=key _ _ _ p3;clear key))
   have HB1:=zh (HB.o.trans (hb1.mono HB.o.size));clear q0 q1 q2 q3 p0 p1 p2 p3 hb1 r0 r1 r2 r3 s0 s1 s2 s3;go_wp2
   go_roundw
   .exact ⟨k+1,by omega,by go_num,HB1.o⟩
   .simp [qf,intOf];omega
  .have HB:=zh hB;clear hB;go_wp2;go_ret;exact ⟨rfl,HB.o⟩
theorem aA3 (x0:Int)(x1 x2 x3:Int)(w:qw):qC 102 #[.agg (qW x0 x1 x2 x3),.agg (qW x0 x1 x2 x3)] w (qB w (.bool true)):=by
 have hB:qY w ((w.alloc (.cells (qW x0 x1 x2 x3) 135)).alloc (.cells (qW x0 x1 x2 x3) 135)):=bal.alloc (by simp) _;have h0:(x0 !=x0)=false:=by simp
 have h1:(x1 !=x1)=false:=by simp
 have h2:(x2 !=x2)=false:=by simp
 have h3:(x3 !=x3)=false:=by simp
 go_enter Tryz.func102,Tryz.ntmps102
 go_wp2;go_ret;exact ⟨rfl,hB⟩
theorem vU (a a':qO)(n c c':Nat)(xs:List FrT)(w:qw)(h:QS cO zFr w a n c xs)(h':QS cO zFr w a' n c' xs):
 qC 47 #[qS a n c,qS a' n c'] w (qB w (.bool true)):=by
 have hne:((n:Int) !=(n:Int))=false:=by simp
 have hmx:=h.2.1;unfold maxLen at hmx;have HH:=zh (xA h h');clear h h';go_enter Tryz.func47,Tryz.ntmps47
 go_wp2;go_loopw [5] (fun i wr=>∃ k:Nat,k<=n/\i=qI k/\qY w wr) (qf n)
 .exact ⟨0,xC _,rfl,brf⟩
 .obtain ⟨k,hk,rfl,hB⟩:=hrel;by_cases hlt:k<n
  .have hlt':(k:Int)<(n:Int):=by omega
   obtain ⟨b,f,rfl,q0,q1,q2,q3⟩:=(HH.o.1.bw hB).at k hlt _ _ _ _ rfl;obtain ⟨b',f',rfl,p0,p1,p2,p3⟩:=(HH.o.2.bw hB).at k hlt _ _ _ _ rfl;generalize xs.getD k zFr=r at *;obtain ⟨x0,x1,x2,x3⟩:=r;simp only at q0 q1 q2 q3 p0 p1 p2 p3;have hlb:=xD _ _ q1;have hlb':=xD _ _ p1;have HB:=zh hB;clear hB;go_wp2
   go_region_held3 (fun w'=>w'.cell? (qR b (f+k*4))=some (qI x0)/\w'.cell? (qR b (f+k*4+1))=some (qI x1)/\w'.cell? (qR b (f+k*4+2))=some (qI x2)/\w'.cell? (qR b (f+k*4+3))=some (qI x3)/\w'.cell? (qR b' (f'+k*4))=some (qI x0)/\w'.cell? (qR b' (f'+k*4+1))=some (qI x1)/\w'.cell? (qR b' (f'+k*4+2))=some (qI x2)/\w'.cell? (qR b' (f'+k*4+3))=some (qI x3)) (go_keep)
    (first
      | (go_at_call 102;refine (aA3 x0 x1 x2 x3 _).mono ?_;rintro e w1 ⟨rfl,hb1⟩;replace hb1:=dF hb1;have key:∀ g o v,wr.cell? (qR g o)=some v->w1.cell? (qR g o)=some v:=(fun g o v hv=>(hb1.cell (xD wr _ hv)).trans hv);have r0:=key _ _ _ q0;have r1:=key _ _ _ q1;have r2:=key _ _ _ q2;have r3:=key _ _ _ q3;have s0:=key _ _ _ p0;have s1:=key _ _ _ p1;have s2:=key _ _ _ p2;have s3:=key _ _ _ p3;clear key))
   have HB1:=zh (HB.o.trans (hb1.mono HB.o.size));clear q0 q1 q2 q3 p0 p1 p2 p3 hb1 r0 r1 r2 r3 s0 s1 s2 s3;go_wp2
   go_roundw
   .exact ⟨k+1,by omega,by go_num,HB1.o⟩
   .simp [qf,intOf];omega
  .have HB:=zh hB;clear hB;go_wp2;go_ret;exact ⟨rfl,HB.o⟩
structure MnD (w:qw)(M:Mn):Prop where
 m:MSD w M.ma M.mn M.mc M.ms
 k:IS w M.ka M.kn M.kc M.kz
 f:BS w M.fa M.fn M.fc M.fz
 r:BS w M.ra M.rn M.rc M.rz
 o:BS w M.oa M.on M.oc M.oz
 l:QS bR zSl w M.la M.ln M.lc M.lz
 h:QS cO zFr w M.ha M.hn M.hc M.hz
theorem MnD.bw {w w':qw}{M:Mn}(h:MnD w M)(hb:qY w w'):MnD w' M:=⟨h.m.bw hb,h.k.bw hb,h.f.bw hb,h.r.bw hb,h.o.bw hb,h.l.bw hb,h.h.bw hb⟩
abbrev usd (m b:Int)(x:SlT):Prop:=x.1=true/\x.2.1=m/\x.2.2.1=b
def fK (m b:Int):Nat->List SlT->Int
 | _,[]=>-1
 | i,x::xs=>if usd m b x then (i:Int) else fK m b (i+1) xs
def hld (xs:List SlT)(m b:Int):Int:=fK m b 0 xs
theorem aGg {α:Type}(xs:List α)(z:α)(k:Nat)(h:k<xs.length):xs.drop k=xs.getD k z::xs.drop (k+1):=by
 rw [List.drop_eq_getElem_cons h];simp [xB,h]
theorem aCw (h:k<xs.length)(hu:usd m b (xs.getD k zSl)):fK m b k (xs.drop k)=k:=by
 rw [aGg xs zSl k h,fK,if_pos hu]
theorem wW (h:k<xs.length)(hu:¬ usd m b (xs.getD k zSl)):fK m b k (xs.drop k)=fK m b (k+1) (xs.drop (k+1)):=by
 rw [aGg xs zSl k h,fK,if_neg hu]
theorem tK (m b:Int):∀ (xs:List SlT) (i:Nat),fK m b i xs=-1\/((i:Int)<=fK m b i xs/\fK m b i xs<(i:Int)+xs.length)
 | [],i=>.inl rfl
 | x::xs,i=>by
   unfold fK;by_cases c:usd m b x
   .rw [if_pos c];exact .inr ⟨Int.le_refl _,by simp;omega⟩
   .rw [if_neg c];rcases tK m b xs (i+1) with h|h
    .exact .inl h
    .exact .inr (by simp at h ⊢;omega)
theorem fZ (xs:List SlT)(m b:Int):hld xs m b=-1\/(0<=hld xs m b/\hld xs m b<(xs.length:Int)):=by
 have:=tK m b xs 0;simpa [hld] using this
theorem rB (n:Int)(h:-9223372036854775808<=n/\n<=9223372036854775807:=by omega):wrap64 n=n:=by unfold wrap64;omega
theorem fU {k:Int}:lkc ps s w k d=0 ↔ cfo s w k d=true/\1<=ps.length/\ps.length<=4/\fO ps/\nms ps/\jQ ps/\(0<s->jT ps w)/\(lay ps s w k).flash<=16384/\(lay ps s w k).ram<=16384:=by
 constructor
 .intro h;unfold lkc dS at h;by_cases c1:cfo s w k d=false
  .rw [if_pos c1] at h;simp at h
  rw [if_neg c1] at h;by_cases c2:ps.length<1\/4<ps.length
  .rw [if_pos c2] at h;simp at h
  rw [if_neg c2] at h;by_cases c3:¬ fO ps
  .rw [if_pos c3] at h;simp at h
  rw [if_neg c3] at h;by_cases c4:¬ nms ps
  .rw [if_pos c4] at h;simp at h
  rw [if_neg c4,if_neg (by simp)] at h;by_cases c5:¬ jQ ps
  .rw [if_pos c5] at h;simp at h
  rw [if_neg c5] at h;by_cases c6:0<s/\¬ jT ps w
  .rw [if_pos c6] at h;simp at h
  rw [if_neg c6] at h;by_cases c7:16384<(lay ps s w k).flash
  .rw [if_pos c7] at h;simp at h
  rw [if_neg c7] at h;by_cases c8:16384<(lay ps s w k).ram
  .rw [if_pos c8] at h;simp at h
  exact ⟨by simpa using c1,by omega,by omega,xZ.1 c3,xZ.1 c4,xZ.1 c5,fun h=>xZ.1 (fun e=>c6 ⟨h,e⟩),by omega,by omega⟩
 .rintro ⟨h1,h2,h3,h4,h5,h6,h7,h8,h9⟩;have e0:dS ps s w k d=0:=by unfold dS;rw [if_neg (by simp [h1]),if_neg (by omega),if_neg (fun e=>e h4),if_neg (fun e=>e h5)]
  unfold lkc;rw [if_neg (by rw [e0];simp),if_neg (fun e=>e h6),if_neg (fun e=>e.2 (h7 e.1)),if_neg (by omega),if_neg (by omega)]
theorem aPq {w' k:Int}(h:s=0\/rnd (4*w)=rnd (4*w')):lay ps s w k=lay ps s w' k:=by
 rcases h with rfl|h
 .simp [lay]
 .have e:slt ps w k=slt ps w' k:=by funext i;unfold slt;rw [h]
  unfold lay;rw [h,e]
theorem aEc {k:Int}(h:lkc ps s w k d=0):Lok ps (lay ps s w k):=by
 obtain ⟨h1,h2,h3,h4,h5,h6,h7,h8,h9⟩:=fU.1 h;have hc:=h1;unfold cfo at hc;simp at hc;obtain ⟨s0,s1,w0,w1,k0,k1,k2,d0,d1⟩:=hc;have a1:=bO h4 ps.length aN;have a4:=aR (x:=4*w);have hr:(lay ps s w k).ram=Ra ps ps.length+k+(s.toNat:Int)*rnd (4*w):=rfl;have ht:(lay ps s w k).stack=65536+Ra ps ps.length:=rfl;have hl:(lay ps s w k).slots.length=s.toNat:=by simp [lay]
 have main:∀ w',cfW (lay ps s w k)=w'->(s=0\/rnd (4*w)=rnd (4*w'))->1<=w'->w'<=64->(0<s->w<=w')->cfK (lay ps s w k)=k->Lok ps (lay ps s w k):=by
  intro w' e1 e2 e3 e4 e5 e6;have el:=aPq (ps:=ps) (k:=k) e2;have hs:((s.toNat:Nat):Int)=s:=by omega
  have hz:lkc ps s w' k 0=0:=fU.2 ⟨by unfold cfo;simp;omega,h2,h3,h4,h5,h6,fun hs i hi j hj=>Int.le_trans (h7 hs i hi j hj) (e5 hs),by rw [<- el];exact h8,by rw [<- el];exact h9⟩;unfold Lok;rw [hl,hs,e1,e6];exact ⟨hz,by unfold lkL;rw [if_pos hz,el]⟩
 by_cases c:s=0
 .subst c;have e0:(lay ps 0 w k).slots=[]:=by simp [lay]
  have hr0:(lay ps 0 w k).ram=Ra ps ps.length+k:=by rw [hr];simp
  refine main 1 (by unfold cfW;rw [if_pos e0]) (.inl rfl) (by omega) (by omega) (fun h=>absurd h (by omega)) ?_;unfold cfK cZ;rw [if_pos e0,hr0,ht,rB (65536+(Ra ps ps.length+k)),rB _];omega
 .have hp:0<s.toNat:=by omega
  have hne:¬ (lay ps s w k).slots=[]:=fun e=>by rw [e] at hl;simp at hl;omega
  have e0:(lay ps s w k).slots.getD 0 0=65536+Ra ps ps.length+k:=by
   simp [lay,xB,hp,slt]
  have hm:(s.toNat:Int)*rnd (4*w)<=4*287:=Int.mul_le_mul (by omega) (by omega) (by omega) (by omega);have hm0:(0:Int)<=(s.toNat:Int)*rnd (4*w):=Int.mul_nonneg (by omega) (by omega)
  have eq:cfQ (lay ps s w k)=rnd (4*w):=by
   unfold cfQ;rw [hr,e0,hl,rB (65536+_),rB (65536+_-_),show 65536+(Ra ps ps.length+k+(s.toNat:Int)*rnd (4*w))-(65536+Ra ps ps.length+k)=rnd (4*w)*(s.toNat:Int) by rw [Int.mul_comm (rnd (4*w))];omega,Int.mul_tdiv_cancel _ (by omega),rB _]
  have hrn:rnd (4*w)=(4*w+31)/32*32:=rfl;refine main (rnd (4*w)/4) ?_ (.inr ?_) (by omega) (by omega) (fun _=>by omega) ?_
  .unfold cfW;rw [if_neg hne,eq,Int.tdiv_eq_ediv_of_nonneg (by omega),rB _]
  .rw [hrn];unfold rnd;omega
  .unfold cfK cZ;rw [if_neg hne,e0,ht,rB _];omega
theorem iR (a:qO)(n c:Nat)(xs:List SlT)(m b:Int)(w:qw)(h:QS bR zSl w a n c xs):
 qC 176 #[qS a n c,qI m,qI b] w (qB w (qI (hld xs m b))):=by
 have hl:=h.1;have hmx:=h.2.1;unfold maxLen at hmx;obtain ⟨r,hr⟩:=eqx (hld xs m b);rw [<- hr];have HR:=zh hr;clear hr;go_enter Tryz.func176,Tryz.ntmps176
 go_wp2;go_loopw [11] (fun i wr=>∃ k:Nat,k<=n/\i=qI k/\Hid (r=fK m b k (xs.drop k))/\qY w wr) (qf n)
 .exact ⟨0,xC _,rfl,HR,brf⟩
 .obtain ⟨k,hk,rfl,HI,hB⟩:=hrel;clear HR;by_cases hlt:k<n
  .have hlt':(k:Int)<(n:Int):=by omega
   obtain ⟨g,f,rfl,q0,q1,q2,q3⟩:=(h.bw hB).at k hlt _ _ _ _ rfl;have HH:=zh (fun hu=>aCw (m:=m) (b:=b) (show k<xs.length by omega) hu);have HM:=zh (fun hu=>wW (m:=m) (b:=b) (show k<xs.length by omega) hu);generalize xs.getD k zSl=x at *;obtain ⟨x0,x1,x2,x3⟩:=x;dsimp only at q0 q1 q2 q3;have HB:=zh (hB.alloc hB.size (.cells #[.bool x0,qI x1,qI x2,qI x3] 142));clear hB h;by_cases hu:usd m b (x0,x1,x2,x3)
   .have e:=zh (show r=k from by rw [HI.out];exact HH.o hu);obtain ⟨h0,h1,h2⟩:=hu;dsimp only at h0 h1 h2;subst h0 h1 h2;clear HH HM;go_wp2;go_ret;exact ⟨aH e.o.symm,HB.o⟩
   .have HN:=zh (show r=fK m b (k+1) (xs.drop (k+1)) from by rw [HI.out];exact HM.o hu);have hu':¬ (x0=true/\x1=m/\x2=b):=hu;clear HH HM HI hu;cases x0 with
    | false=>
      clear hu';go_wp2
      go_roundw
      .exact ⟨k+1,by omega,by go_num,HN,HB.o⟩
      .simp [qf,intOf];omega
    | true=>
      by_cases c1:x1=m
      .have c2:(x2==b)=false:=by simp;exact fun e=>hu' ⟨rfl,c1,e⟩
       have c1':(x1==m)=true:=by simp [c1]
       clear hu' c1;go_wp2
       go_roundw
       .exact ⟨k+1,by omega,by go_num,HN,HB.o⟩
       .simp [qf,intOf];omega
      .have c1':(x1==m)=false:=by simp [c1]
       clear hu' c1;go_wp2
       go_roundw
       .exact ⟨k+1,by omega,by go_num,HN,HB.o⟩
       .simp [qf,intOf];omega
  .have e:=zh (show r=-1 from by rw [HI.out,List.drop_eq_nil_of_le (by omega)];rfl);have HB:=zh hB;clear hB;go_wp2;go_ret;exact ⟨aH e.o.symm,HB.o⟩
theorem pA (a:qO)(n c:Nat)(xs:List SlT)(m b:Int)(w:qw)(h:QS bR zSl w a n c xs):
 qC 148 #[qS a n c,qI m,qI b] w (qB w (qI (hld xs m b))):=by
 have hl:=h.1;have hmx:=h.2.1;unfold maxLen at hmx;obtain ⟨r,hr⟩:=eqx (hld xs m b);rw [<- hr];have HR:=zh hr;clear hr;go_enter Tryz.func148,Tryz.ntmps148
 go_wp2;go_loopw [7] (fun i wr=>∃ k:Nat,k<=n/\i=qI k/\Hid (r=fK m b k (xs.drop k))/\qY w wr) (qf n)
 .exact ⟨0,xC _,rfl,HR,brf⟩
 .obtain ⟨k,hk,rfl,HI,hB⟩:=hrel;clear HR;by_cases hlt:k<n
  .have hlt':(k:Int)<(n:Int):=by omega
   obtain ⟨g,f,rfl,q0,q1,q2,q3⟩:=(h.bw hB).at k hlt _ _ _ _ rfl;have HH:=zh (fun hu=>aCw (m:=m) (b:=b) (show k<xs.length by omega) hu);have HM:=zh (fun hu=>wW (m:=m) (b:=b) (show k<xs.length by omega) hu);generalize xs.getD k zSl=x at *;obtain ⟨x0,x1,x2,x3⟩:=x;dsimp only at q0 q1 q2 q3;have HB:=zh hB;clear hB h q3;by_cases hu:usd m b (x0,x1,x2,x3)
   .have e:=zh (show r=k from by rw [HI.out];exact HH.o hu);obtain ⟨h0,h1,h2⟩:=hu;dsimp only at h0 h1 h2;subst h0 h1 h2;clear HH HM;go_wp2;go_ret;exact ⟨aH e.o.symm,HB.o⟩
   .have HN:=zh (show r=fK m b (k+1) (xs.drop (k+1)) from by rw [HI.out];exact HM.o hu);have hu':¬ (x0=true/\x1=m/\x2=b):=hu;clear HH HM HI hu;cases x0 with
    | false=>
      clear hu';go_wp2
      go_roundw
      .exact ⟨k+1,by omega,by go_num,HN,HB.o⟩
      .simp [qf,intOf];omega
    | true=>
      by_cases c1:x1=m
      .have c2:(x2==b)=false:=by simp;exact fun e=>hu' ⟨rfl,c1,e⟩
       have c1':(x1==m)=true:=by simp [c1]
       clear hu' c1;go_wp2
       go_roundw
       .exact ⟨k+1,by omega,by go_num,HN,HB.o⟩
       .simp [qf,intOf];omega
      .have c1':(x1==m)=false:=by simp [c1]
       clear hu' c1;go_wp2
       go_roundw
       .exact ⟨k+1,by omega,by go_num,HN,HB.o⟩
       .simp [qf,intOf];omega
  .have e:=zh (show r=-1 from by rw [HI.out,List.drop_eq_nil_of_le (by omega)];rfl);have HB:=zh hB;clear hB;go_wp2;go_ret;exact ⟨aH e.o.symm,HB.o⟩
def z15:Array Value:=qZ
def jS (W:qw)(k:Nat)(v0 v1 v2 v3 v4 v5 v6 v7 v8 v9 v10 v11 v12 v13 v14:Value):World:=((((((((((((((W.setCell (qR k 0) v0).setCell (qR k 1) v1).setCell (qR k 2) v2).setCell (qR k 3) v3).setCell (qR k 4) v4).setCell (qR k 5) v5).setCell (qR k 6) v6).setCell (qR k 7) v7).setCell (qR k 8) v8).setCell (qR k 9) v9).setCell (qR k 10) v10).setCell (qR k 11) v11).setCell (qR k 12) v12).setCell (qR k 13) v13).setCell (qR k 14) v14
theorem cE (W:qw)(k:Nat)(v0 v1 v2 v3 v4 v5 v6 v7 v8 v9 v10 v11 v12 v13 v14:Value):Turn (fun j=>j=k) W (jS W k v0 v1 v2 v3 v4 v5 v6 v7 v8 v9 v10 v11 v12 v13 v14):=((((((((((((((aC W k 0 v0).trans (aC _ k 1 v1)).trans (aC _ k 2 v2)).trans (aC _ k 3 v3)).trans (aC _ k 4 v4)).trans (aC _ k 5 v5)).trans (aC _ k 6 v6)).trans (aC _ k 7 v7)).trans (aC _ k 8 v8)).trans (aC _ k 9 v9)).trans (aC _ k 10 v10)).trans (aC _ k 11 v11)).trans (aC _ k 12 v12)).trans (aC _ k 13 v13)).trans (aC _ k 14 v14)
theorem iJ {W:qw}{t:TypeId}(h:Blk W k z15 t)(v0 v1 v2 v3 v4 v5 v6 v7 v8 v9 v10 v11 v12 v13 v14:Value):Blk (jS W k v0 v1 v2 v3 v4 v5 v6 v7 v8 v9 v10 v11 v12 v13 v14) k #[v0,v1,v2,v3,v4,v5,v6,v7,v8,v9,v10,v11,v12,v13,v14] t:=by
 have k:=((((((((((((((h.set 0 v0).set 1 v1).set 2 v2).set 3 v3).set 4 v4).set 5 v5).set 6 v6).set 7 v7).set 8 v8).set 9 v9).set 10 v10).set 11 v11).set 12 v12).set 13 v13).set 14 v14;have e:((((((((((((((z15.setIfInBounds 0 v0).setIfInBounds 1 v1).setIfInBounds 2 v2).setIfInBounds 3 v3).setIfInBounds 4 v4).setIfInBounds 5 v5).setIfInBounds 6 v6).setIfInBounds 7 v7).setIfInBounds 8 v8).setIfInBounds 9 v9).setIfInBounds 10 v10).setIfInBounds 11 v11).setIfInBounds 12 v12).setIfInBounds 13 v13).setIfInBounds 14 v14=#[v0,v1,v2,v3,v4,v5,v6,v7,v8,v9,v10,v11,v12,v13,v14]:=by unfold z15;simp
 rw [e] at k;exact k
end Go.Proofs.YtncccmeomcaabaaGreat
namespace Go.Proofs.YtncccmeomcaabaaGreat
open Go.ChangeShapes Go.WideShapes Go.ChangeAt Go.RowKit Classical
set_option maxRecDepth 100000 in
theorem lL:joinedFacts Tryz.pinned.checked.prog 3 Tryz.f3 Rows.fnExactReturnSpec Rows.fnExactReturnRow=true:=by
 unfold joinedFacts;simp only [Bool.and_eq_true]
 repeat' apply xA
 all_goals (as_aux_lemma=>kernel_rfl)
theorem mC:Tryz.pinned.checked.prog.funcNamed Rows.fnExactReturnRow.func=some 3:=by kernel_rfl
