import Derived.Test.YtncccmeomcaabaaGreatP07
import Derived.Test.YtncccmeomcaabaaGreatP11
import Derived.Test.YtncccmeomcaabaaGreatP13
import Derived.Test.YtncccmeomcaabaaGreatP16
set_option maxHeartbeats 8000000
namespace Go.Proofs.YtncccmeomcaabaaGreat
open Go.RowKit Classical
open Go.Proofs.Tryz
set_option linter.all false
set_option maxRecDepth 100000
variable {L:Lay}{M:Md}{P:Prop}{S:Nat->Prop}{a a5:qO}{b m s:Int}{base c c5 cap g j k n sz:Nat}{cs:Array Value}{ms:List Md}{ps:List PMod}{v v' v1 v2 v3 v3' v4' v5' v6' v7':Value}{xs:List SlT}{β:Nat->Nat}
structure Mn where
 ma:qO
 mn:Nat
 mc:Nat
 ms:List Md
 cs:Int
 cw:Int
 ck:Int
 cd:Int
 pc:Int
 ka:qO
 kn:Nat
 kc:Nat
 kz:List Int
 fa:qO
 fn:Nat
 fc:Nat
 fz:List Int
 ra:qO
 rn:Nat
 rc:Nat
 rz:List Int
 oa:qO
 on:Nat
 oc:Nat
 oz:List Int
 md:Int
 bk:Int
 la:qO
 ln:Nat
 lc:Nat
 lz:List SlT
 ha:qO
 hn:Nat
 hc:Nat
 hz:List FrT
 tn:Int
abbrev qA (M:Mn):Array Value:=#[.slice M.ma M.mn M.mc,.int .i64 M.cs,.int .i64 M.cw,.int .i64 M.ck,.int .i64 M.cd,.int .i64 M.pc,.slice M.ka M.kn M.kc,.slice M.fa M.fn M.fc,.slice M.ra M.rn M.rc,.slice M.oa M.on M.oc,.int .i64 M.md,.int .i64 M.bk,.slice M.la M.ln M.lc,.slice M.ha M.hn M.hc,.int .i64 M.tn]
abbrev qX (M:Mn)(a:Option Addr)(b c:Nat)(d:Option Addr)(e f:Nat)(g:Option Addr)(h i:Nat)(j:Option Addr)(k l:Nat)(m:Option Addr)(n o:Nat)(p:Option Addr)(q r:Nat)(s:Option Addr)(t u:Nat):Array Value:=#[.slice a b c,.int .i64 M.cs,.int .i64 M.cw,.int .i64 M.ck,.int .i64 M.cd,.int .i64 M.pc,.slice d e f,.slice g h i,.slice j k l,.slice m n o,.int .i64 M.md,.int .i64 M.bk,.slice p q r,.slice s t u,.int .i64 M.tn]
abbrev qK (M:Mn)(a b c d e f g:Nat):Array Value:=#[.slice (some (qR a 0)) M.mn M.mn,.int .i64 M.cs,.int .i64 M.cw,.int .i64 M.ck,.int .i64 M.cd,.int .i64 M.pc,.slice (some (qR b 0)) M.kn M.kn,.slice (some (qR c 0)) M.fn M.fn,.slice (some (qR d 0)) M.rn M.rn,.slice (some (qR e 0)) M.on M.on,.int .i64 M.md,.int .i64 M.bk,.slice (some (qR f 0)) M.ln M.ln,.slice (some (qR g 0)) M.hn M.hn,.int .i64 M.tn]
structure MnT (w:qw)(M:Mn):Prop where
 m:MS w M.ma M.mn M.mc M.ms
 k:IS w M.ka M.kn M.kc M.kz
 f:BS w M.fa M.fn M.fc M.fz
 r:BS w M.ra M.rn M.rc M.rz
 o:BS w M.oa M.on M.oc M.oz
 l:QS bS zSl w M.la M.ln M.lc M.lz
 h:QS cP zFr w M.ha M.hn M.hc M.hz
theorem MnT.bw {w w':qw}{M:Mn}(h:MnT w M)(hb:qY w w'):MnT w' M:=⟨h.m.bw hb,h.k.bw hb,h.f.bw hb,h.r.bw hb,h.o.bw hb,h.l.bw hb,h.h.bw hb⟩
structure MnB (M:Mn):Prop where
 n:M.mn<=1048576
 m:∀ i,i<M.mn->(M.ms.getD i aK).size<=1048576
 k:M.kn<=1048576
 b:M.fn+M.rn+M.on<=1048576
 l:M.ln<=1048576
 h:M.hn<=1048576
 s:M.mn+upS (fun j=>(M.ms.getD j aK).size) M.mn+M.kn+M.fn+M.rn+M.on+M.ln+M.hn<=1048576
theorem Blk.mc {w:qw}{b:Nat}{t:TypeId}{v0 v4 v5 v6 v7 v8 v9 v10 v11 v12 v13 v14:Value}(h:Blk w b #[v0,v1,v2,v3,v4,v5,v6,v7,v8,v9,v10,v11,v12,v13,v14] t):w.cell? (qR b 0)=some v0/\w.cell? (qR b 1)=some v1/\w.cell? (qR b 2)=some v2/\w.cell? (qR b 3)=some v3/\w.cell? (qR b 4)=some v4/\w.cell? (qR b 5)=some v5/\w.cell? (qR b 6)=some v6/\w.cell? (qR b 7)=some v7/\w.cell? (qR b 8)=some v8/\w.cell? (qR b 9)=some v9/\w.cell? (qR b 10)=some v10/\w.cell? (qR b 11)=some v11/\w.cell? (qR b 12)=some v12/\w.cell? (qR b 13)=some v13/\w.cell? (qR b 14)=some v14:=⟨h.cell 0,h.cell 1,h.cell 2,h.cell 3,h.cell 4,h.cell 5,h.cell 6,h.cell 7,h.cell 8,h.cell 9,h.cell 10,h.cell 11,h.cell 12,h.cell 13,h.cell 14⟩
theorem vF (M:Mn)(w:qw)(h:MnT w M):
 qC 7 #[.agg (qA M),qI 1048576] w fun e w'=>∃ z:Int,e=.returned (qI z)/\(0<=z->MnB M)/\qY w w':=by
 have k0:=Blk.new w (qA M) 34;have B0:qY w (w.alloc (.cells (qA M) 34)):=bal;have H1:=zh (vE M.ma M.mn M.mc M.ms 1048576 _ (h.m.bw B0) (by omega) (by omega));have H2:=zh (fun (z:Int) (W:qw) (z0:0<=z) (z1:z<=1048576)=>xA (fun q=>aHi M.pc M.ka M.kn M.kc z W z0 z1 h.k.2.1 q) (fun q=>aHh M.pc M.ka M.kn M.kc z W z0 z1 h.k.2.1 q));have H3:=zh (fun (z:Int) (W:qw) (z0:0<=z) (z1:z<=1048576)=>xA (fun q=>aI2 M.fa M.ra M.oa M.fn M.fc M.rn M.rc M.on M.oc z W z0 z1 h.f.2.1 h.r.2.1 h.o.2.1 q) (fun q=>aI1 M.fa M.ra M.oa M.fn M.fc M.rn M.rc M.on M.oc z W z0 z1 h.f.2.1 h.r.2.1 h.o.2.1 q));have H4:=zh (fun (z:Int) (W:qw) (z0:0<=z) (z1:z<=1048576)=>aB1 M.la M.ln M.lc z W z0 z1 h.l.2.1);have H5:=zh (fun (z:Int) (W:qw) (z0:0<=z) (z1:z<=1048576)=>zN M.ha M.hn M.hc z W z0 z1 h.h.2.1);have HUP:=zh (fun i hi=>zC (fun j=>(M.ms.getD j aK).size) M.mn i hi);unfold szR at H1 H4 H5;have HK:=zh (xA B0 k0);clear B0 k0 h;generalize hq1:M.mn+upS (fun j=>(M.ms.getD j aK).size) M.mn=q1 at *;have HQ1:=zh hq1;clear hq1;by_cases c1:(1048576:Int)<(q1:Int)
 .rw [if_pos c1] at H1;go_enter func7,ntmps7
  go_wp2_with fail
  refine H1.o.mono ?_;rintro e w1 ⟨rfl,hb1⟩;go_wp2;go_ret;exact ⟨-1,rfl,fun h=>absurd h (by decide),HK.o.1.trans (hb1.mono HK.o.1.size)⟩
 rw [if_neg c1] at H1;obtain ⟨z1,hz1⟩:∃ z1:Int,z1=1048576-q1:=⟨_,rfl⟩;rw [<- hz1] at H1;have d1:¬ z1<0:=by omega
 have e1:z1<=1048576:=by omega
 have HZ1:=zh hz1;clear hz1;go_enter func7,ntmps7
 go_wp2_with fail
 refine H1.o.mono ?_;rintro e w1 ⟨rfl,hb1⟩;have B1:=HK.o.1.trans (hb1.mono HK.o.1.size);have k1:=HK.o.2.bw hb1;have HBK:=zh (xA B1 k1);clear hb1 HK H1 B1;have y5:=k1.e5;have y6:=k1.e6;clear k1;by_cases c2:z1<(M.kn:Int)
 .go_wp2_with fail
  refine ((H2.o z1 _ (by omega) e1).2 c2).mono ?_;rintro e w2 ⟨rfl,hb2⟩;go_wp2;go_ret;exact ⟨-1,rfl,fun h=>absurd h (by decide),HBK.o.1.trans (hb2.mono HBK.o.1.size)⟩
 obtain ⟨z2,hz2⟩:∃ z2:Int,z2=z1-M.kn:=⟨_,rfl⟩;have d2:¬ z2<0:=by omega
 have e2:z2<=1048576:=by omega
 have HZ2:=zh hz2;go_wp2_with fail
 refine ((H2.o z1 _ (by omega) e1).1 (by omega)).mono ?_;rintro e w2 ⟨rfl,hb2⟩;rw [<- hz2];have B2:=HBK.o.1.trans (hb2.mono HBK.o.1.size);have k2:=HBK.o.2.bw hb2;clear hb2 HBK y5 y6 hz2 H2;have HBK:=zh (xA B2 k2);clear B2;have y7:=k2.e7;have y8:=k2.e8;have y9:=k2.e9;clear k2;by_cases c3:z2<(M.fn:Int)+M.rn+M.on
 .go_wp2_with fail
  refine ((H3.o z2 _ (by omega) e2).2 c3).mono ?_;rintro e w3 ⟨rfl,hb3⟩;go_wp2;go_ret;exact ⟨-1,rfl,fun h=>absurd h (by decide),HBK.o.1.trans (hb3.mono HBK.o.1.size)⟩
 obtain ⟨z3,hz3⟩:∃ z3:Int,z3=z2-M.fn-M.rn-M.on:=⟨_,rfl⟩;have d3:¬ z3<0:=by omega
 have e3:z3<=1048576:=by omega
 have HZ3:=zh hz3;go_wp2_with fail
 refine ((H3.o z2 _ (by omega) e2).1 (by omega)).mono ?_;rintro e w3 ⟨rfl,hb3⟩;rw [<- hz3];have B3:=HBK.o.1.trans (hb3.mono HBK.o.1.size);have k3:=HBK.o.2.bw hb3;clear hb3 HBK y7 y8 y9 hz3 H3;have y12:=k3.e12;have y13:=k3.e13;have HB:=zh B3;clear k3 B3;go_wp2_with fail
 refine (H4.o z3 _ (by omega) e3).mono ?_;rintro e w4 ⟨rfl,rfl⟩;by_cases c4:z3<(M.ln:Int)
 .rw [if_pos c4];go_wp2;go_ret;exact ⟨-1,rfl,fun h=>absurd h (by decide),HB.o⟩
 rw [if_neg c4];obtain ⟨z4,hz4⟩:∃ z4:Int,z4=z3-M.ln:=⟨_,rfl⟩;have d4:¬ z4<0:=by omega
 have e4:z4<=1048576:=by omega
 have HZ4:=zh hz4;rw [<- hz4];clear hz4 H4;go_wp2_with fail
 refine (H5.o z4 _ (by omega) e4).mono ?_;rintro e w5 ⟨rfl,rfl⟩;by_cases c5:z4<(M.hn:Int)
 .rw [if_pos c5];go_wp2;go_ret;exact ⟨-1,rfl,fun h=>absurd h (by decide),HB.o⟩
 rw [if_neg c5];have d5:¬ z4-(M.hn:Int)<0:=by omega
 have HF:=zh (show MnB M from by
  have h1:=HQ1.o;have h2:=HZ1.o;have h3:=HZ2.o;have h4:=HZ3.o;have h5:=HZ4.o
  exact ⟨by omega,fun i hi=>by have:=HUP.o i hi;omega,by omega,by omega,by omega,by omega,by omega⟩)
 go_wp2;go_ret;exact ⟨_,rfl,fun _=>HF.o,HB.o⟩
def ShL (hs:List Hd)(j:Nat):Prop:=∃ i,i<hs.length/\Sh (hs.getD i zHd) j
structure MnO (W:qw)(base:Nat)(v0:Value)(hs:List Hd)(L:List (Hd×Ct))(β:Nat->Nat)(v1 vf vr vo vl vh:Value)(K F R O:qi)(S:List SlT)(H:List FrT):Prop where
 m:OMs W base v0 L β
 e:L.map (fun x=>x.1)=hs
 k:OI W base v1 K
 q:OM W base vf vr vo F R O
 l:OG 142 4 bS W base vl S
 h:OG 135 4 cP W base vh H
 km:∀ j,v1.ownBlock=some j->¬ ShL hs j
 qm:∀ j,qN vf vr vo j->¬ ShL hs j
 lo:∀ (i:Nat) (x:Hd×Ct),L[i]?=some x->base<=β i
section
variable {W W':qw}{base:Nat}{v0:Value}{hs:List Hd}{L L':List (Hd×Ct)}{β:Nat->Nat}{v1 vf vr vo vl vh:Value}{K F R O K' F' R' O':qi}{S S':List SlT}{H H':List FrT}
theorem MnO.bw (h:MnO W base v0 hs L β v1 vf vr vo vl vh K F R O S H)(hb:qY W W'):MnO W' base v0 hs L β v1 vf vr vo vl vh K F R O S H:=⟨h.m.bw hb,h.e,h.k.bw hb,h.q.bw hb,h.l.bw hb,h.h.bw hb,h.km,h.qm,h.lo⟩
theorem aJe (h:MnO W base v0 hs L β v1 vf vr vo vl vh K F R O S H)(hj:ShL hs j):∃ (i:Nat) (x:Hd×Ct),L[i]?=some x/\Sh x.1 j:=by
 obtain ⟨i,hi,hj⟩:=hj;obtain ⟨c,hc⟩:=aOc h.e hi;exact ⟨i,_,hc,hj⟩
theorem MnO.no (h:MnO W base v0 hs L β v1 vf vr vo vl vh K F R O S H)(hj:ShL hs j){t:TypeId}(hb:Blk W j cs t)(ht:t≠3/\t≠5/\t≠9/\t≠163):False:=by
 obtain ⟨i,x,hx,hs⟩:=aJe h hj;exact (h.m.m i x hx).1.no hs hb ht
theorem eK {f r o:Value}{x1 x2 x3:qi}(h:OM W base f r o x1 x2 x3)(hj:qN f r o j):∃ cs,Blk W j cs 5:=by
 rcases hj with e|e|e
 .exact aE h.o1.1 e
 .exact aE h.o2.1 e
 .exact aE h.o3.1 e
theorem MnO.mods (h:MnO W base v0 hs L β v1 vf vr vo vl vh K F R O S H)(M:OMs W' base v0 L' β)(e:L'.map (fun x=>x.1)=hs)(T:Turn (fun j=>v0.ownBlock=some j\/ShL hs j) W W'):MnO W' base v0 hs L' β v1 vf vr vo vl vh K F R O S H:=by
 have hd:∀ {j:Nat} {cs:Array Value} {t:TypeId},Blk W j cs t->t≠138->v0.ownBlock≠some j:=fun hb hne e=>by
  obtain ⟨c,k⟩:=aE h.m.o e;exact hne (aI hb k)
 refine ⟨M,e,aX T h.k (fun k hk s=>?_),h.q.kept T (fun j hj s=>?_),h.l.kept T (fun k hk s=>?_),h.h.kept T (fun k hk s=>?_),h.km,h.qm,fun i x hx=>?_⟩
 .obtain ⟨c,kb⟩:=aE h.k.1 hk;rcases s with s|s
  .exact hd kb (by decide) s
  .exact h.km k hk s
 .obtain ⟨c,kb⟩:=eK h.q hj;rcases s with s|s
  .exact hd kb (by decide) s
  .exact h.qm j hj s
 .obtain ⟨c,kb⟩:=aE h.l hk;rcases s with s|s
  .exact hd kb (by decide) s
  .exact h.no s kb (by decide)
 .obtain ⟨c,kb⟩:=aE h.h hk;rcases s with s|s
  .exact hd kb (by decide) s
  .exact h.no s kb (by decide)
 .have hl:L.length=L'.length:=by have q:=congrArg List.length (h.e.trans e.symm);simpa using q
  exact h.lo i _ (xN (by have:=dJ hx;omega))
theorem OMs.far (M:OMs W base v0 L β)(e:L.map (fun x=>x.1)=hs){Q:Nat->Prop}(T:Turn Q W W')(h1:∀ j,Q j->¬ ShL hs j)(h2:∀ j,Q j->∃ cs t,Blk W j cs t/\t≠138/\t≠25):OMs W' base v0 L β:=
 M.kept T (fun j hj s=>by
  obtain ⟨cs,t,kb,n1,_⟩:=h2 j s;obtain ⟨c,k⟩:=aE M.o hj
  exact n1 (aI kb k)) (fun i x hx j hj s=>h1 j s ⟨i,by rw [<- e,xH];exact dJ hx,by rw [<- e];simp [xB,hx];exact hj⟩) (fun j cs hb s=>by
  obtain ⟨cs',t,kb,_,n2⟩:=h2 j s
  exact n2 (aI kb hb))
theorem MnO.core (h:MnO W base v0 hs L β v1 vf vr vo vl vh K F R O S H)(k':OI W' base v1 K')(T:Turn (fun j=>v1.ownBlock=some j) W W'):MnO W' base v0 hs L β v1 vf vr vo vl vh K' F R O S H:=by
 have kd:∀ {j:Nat} {cs:Array Value} {t:TypeId},Blk W j cs t->t≠3->v1.ownBlock≠some j:=fun hb hne e=>by
  obtain ⟨c,k⟩:=aE h.k.1 e;exact hne (aI hb k)
 refine ⟨h.m.far h.e T h.km (fun j hj=>?_),h.e,k',h.q.kept T (fun j hj s=>?_),h.l.kept T (fun k hk s=>?_),h.h.kept T (fun k hk s=>?_),h.km,h.qm,h.lo⟩
 .obtain ⟨c,kb⟩:=aE h.k.1 hj;exact ⟨c,_,kb,by decide,by decide⟩
 .obtain ⟨c,kb⟩:=eK h.q hj;exact kd kb (by decide) s
 .obtain ⟨c,kb⟩:=aE h.l hk;exact kd kb (by decide) s
 .obtain ⟨c,kb⟩:=aE h.h hk;exact kd kb (by decide) s
theorem MnO.mem (h:MnO W base v0 hs L β v1 vf vr vo vl vh K F R O S H)(q':OM W' base vf vr vo F' R' O')(T:Turn (qN vf vr vo) W W'):MnO W' base v0 hs L β v1 vf vr vo vl vh K F' R' O' S H:=by
 have kd:∀ {j:Nat} {cs:Array Value} {t:TypeId},Blk W j cs t->t≠5->¬ qN vf vr vo j:=fun hb hne e=>by
  obtain ⟨c,k⟩:=eK h.q e;exact hne (aI hb k)
 refine ⟨h.m.far h.e T h.qm (fun j hj=>?_),h.e,aX T h.k (fun k hk s=>?_),q',h.l.kept T (fun k hk s=>?_),h.h.kept T (fun k hk s=>?_),h.km,h.qm,h.lo⟩
 .obtain ⟨c,kb⟩:=eK h.q hj;exact ⟨c,_,kb,by decide,by decide⟩
 .obtain ⟨c,kb⟩:=aE h.k.1 hk;exact kd kb (by decide) s
 .obtain ⟨c,kb⟩:=aE h.l hk;exact kd kb (by decide) s
 .obtain ⟨c,kb⟩:=aE h.h hk;exact kd kb (by decide) s
theorem MnO.slot (h:MnO W base v0 hs L β v1 vf vr vo vl vh K F R O S H)(l':OG 142 4 bS W' base vl S')(T:Turn (fun j=>vl.ownBlock=some j) W W'):MnO W' base v0 hs L β v1 vf vr vo vl vh K F R O S' H:=by
 have kd:∀ {j:Nat} {cs:Array Value} {t:TypeId},Blk W j cs t->t≠142->vl.ownBlock≠some j:=fun hb hne e=>by
  obtain ⟨c,k⟩:=aE h.l e;exact hne (aI hb k)
 refine ⟨h.m.far h.e T (fun j hj s=>?_) (fun j hj=>?_),h.e,aX T h.k (fun k hk s=>?_),h.q.kept T (fun j hj s=>?_),l',h.h.kept T (fun k hk s=>?_),h.km,h.qm,h.lo⟩
 .obtain ⟨c,kb⟩:=aE h.l hj;exact h.no s kb (by decide)
 .obtain ⟨c,kb⟩:=aE h.l hj;exact ⟨c,_,kb,by decide,by decide⟩
 .obtain ⟨c,kb⟩:=aE h.k.1 hk;exact kd kb (by decide) s
 .obtain ⟨c,kb⟩:=eK h.q hj;exact kd kb (by decide) s
 .obtain ⟨c,kb⟩:=aE h.h hk;exact kd kb (by decide) s
theorem MnO.frame (h:MnO W base v0 hs L β v1 vf vr vo vl vh K F R O S H)(h':OG 135 4 cP W' base vh H')(T:Turn (fun j=>vh.ownBlock=some j) W W'):MnO W' base v0 hs L β v1 vf vr vo vl vh K F R O S H':=by
 have kd:∀ {j:Nat} {cs:Array Value} {t:TypeId},Blk W j cs t->t≠135->vh.ownBlock≠some j:=fun hb hne e=>by
  obtain ⟨c,k⟩:=aE h.h e;exact hne (aI hb k)
 refine ⟨h.m.far h.e T (fun j hj s=>?_) (fun j hj=>?_),h.e,aX T h.k (fun k hk s=>?_),h.q.kept T (fun j hj s=>?_),h.l.kept T (fun k hk s=>?_),h',h.km,h.qm,h.lo⟩
 .obtain ⟨c,kb⟩:=aE h.h hj;exact h.no s kb (by decide)
 .obtain ⟨c,kb⟩:=aE h.h hj;exact ⟨c,_,kb,by decide,by decide⟩
 .obtain ⟨c,kb⟩:=aE h.k.1 hk;exact kd kb (by decide) s
 .obtain ⟨c,kb⟩:=eK h.q hj;exact kd kb (by decide) s
 .obtain ⟨c,kb⟩:=aE h.l hk;exact kd kb (by decide) s
end
structure MnD (w:qw)(M:Mn):Prop where
 m:MSD w M.ma M.mn M.mc M.ms
 k:IS w M.ka M.kn M.kc M.kz
 f:BS w M.fa M.fn M.fc M.fz
 r:BS w M.ra M.rn M.rc M.rz
 o:BS w M.oa M.on M.oc M.oz
 l:QS bS zSl w M.la M.ln M.lc M.lz
 h:QS cP zFr w M.ha M.hn M.hc M.hz
theorem MnD.bw {w w':qw}{M:Mn}(h:MnD w M)(hb:qY w w'):MnD w' M:=⟨h.m.bw hb,h.k.bw hb,h.f.bw hb,h.r.bw hb,h.o.bw hb,h.l.bw hb,h.h.bw hb⟩
abbrev usd (m b:Int)(x:SlT):Prop:=x.1=true/\x.2.1=m/\x.2.2.1=b
def fL (m b:Int):Nat->List SlT->Int
 | _,[]=>-1
 | i,x::xs=>if usd m b x then (i:Int) else fL m b (i+1) xs
def hld (xs:List SlT)(m b:Int):Int:=fL m b 0 xs
theorem aGw {α:Type}(xs:List α)(z:α)(k:Nat)(h:k<xs.length):xs.drop k=xs.getD k z::xs.drop (k+1):=by
 rw [List.drop_eq_getElem_cons h];simp [xB,h]
theorem aC8 (h:k<xs.length)(hu:usd m b (xs.getD k zSl)):fL m b k (xs.drop k)=k:=by
 rw [aGw xs zSl k h,fL,if_pos hu]
theorem yQ (h:k<xs.length)(hu:¬ usd m b (xs.getD k zSl)):fL m b k (xs.drop k)=fL m b (k+1) (xs.drop (k+1)):=by
 rw [aGw xs zSl k h,fL,if_neg hu]
theorem tV (m b:Int):∀ (xs:List SlT) (i:Nat),fL m b i xs=-1\/((i:Int)<=fL m b i xs/\fL m b i xs<(i:Int)+xs.length)
 | [],i=>.inl rfl
 | x::xs,i=>by
   unfold fL;by_cases c:usd m b x
   .rw [if_pos c];exact .inr ⟨Int.le_refl _,by simp;omega⟩
   .rw [if_neg c];rcases tV m b xs (i+1) with h|h
    .exact .inl h
    .exact .inr (by simp at h ⊢;omega)
theorem fZ (xs:List SlT)(m b:Int):hld xs m b=-1\/(0<=hld xs m b/\hld xs m b<(xs.length:Int)):=by
 have:=tV m b xs 0;simpa [hld] using this
structure Sam (M N:Mn):Prop where
 s:N.cs=M.cs/\N.cw=M.cw/\N.ck=M.ck/\N.cd=M.cd/\N.pc=M.pc/\N.md=M.md/\N.bk=M.bk/\N.tn=M.tn
 n:N.mn=M.mn/\N.kn=M.kn/\N.fn=M.fn/\N.rn=M.rn/\N.on=M.on/\N.ln=M.ln/\N.hn=M.hn
 z:N.kz=M.kz/\N.fz=M.fz/\N.rz=M.rz/\N.oz=M.oz/\N.lz=M.lz/\N.hz=M.hz
 m:∀ i,i<M.mn->aLv (M.ms.getD i aK) (N.ms.getD i aK)
theorem wI (s c k d:Int)(w:qw):qC 43 #[.agg #[qI s,qI c,qI k,qI d],.agg #[qI s,qI c,qI k,qI d]] w (qB w (.bool true)):=by
 have hB:qY w ((w.alloc (.cells #[qI s,qI c,qI k,qI d] 37)).alloc (.cells #[qI s,qI c,qI k,qI d] 37)):=bal.alloc (by simp) _;have h0:(s !=s)=false:=by simp
 have h1:(c !=c)=false:=by simp
 have h2:(k !=k)=false:=by simp
 have h3:(d !=d)=false:=by simp
 go_enter func43,ntmps43
 go_wp2;go_ret;exact ⟨rfl,hB⟩
theorem dY (M N:Mn)(w:qw)(h:MnD w M)(h':MnD w N)(s:Sam M N):
 qC 11 #[.agg #[qS M.ma M.mn M.mc,qI M.cs,qI M.cw,qI M.ck,qI M.cd,qI M.pc,qS M.ka M.kn M.kc,qS M.fa M.fn M.fc,qS M.ra M.rn M.rc,qS M.oa M.on M.oc,qI M.md,qI M.bk,qS M.la M.ln M.lc,qS M.ha M.hn M.hc,qI M.tn],.agg #[qS N.ma N.mn N.mc,qI N.cs,qI N.cw,qI N.ck,qI N.cd,qI N.pc,qS N.ka N.kn N.kc,qS N.fa N.fn N.fc,qS N.ra N.rn N.rc,qS N.oa N.on N.oc,qI N.md,qI N.bk,qS N.la N.ln N.lc,qS N.ha N.hn N.hc,qI N.tn]] w (qB w (.bool true)):=by
 obtain ⟨⟨e1,e2,e3,e4,e5,e6,e7,e8⟩,⟨n1,n2,n3,n4,n5,n6,n7⟩,⟨z1,z2,z3,z4,z5,z6⟩,hm⟩:=s;obtain ⟨m',k',f',r',o',l',h'⟩:=h';rw [n1] at m';rw [n2,z1] at k';rw [n3,z2] at f';rw [n4,z3] at r';rw [n5,z4] at o';rw [n6,z5] at l';rw [n7,z6] at h';rw [e1,e2,e3,e4,e5,e6,e7,e8,n1,n2,n3,n4,n5,n6,n7];clear e1 e2 e3 e4 e5 e6 e7 e8 n1 n2 n3 n4 n5 n6 n7 z1 z2 z3 z4 z5 z6;have hB0:qY w ((w.alloc (.cells #[qS M.ma M.mn M.mc,qI M.cs,qI M.cw,qI M.ck,qI M.cd,qI M.pc,qS M.ka M.kn M.kc,qS M.fa M.fn M.fc,qS M.ra M.rn M.rc,qS M.oa M.on M.oc,qI M.md,qI M.bk,qS M.la M.ln M.lc,qS M.ha M.hn M.hc,qI M.tn] 43)).alloc (.cells #[qS N.ma M.mn N.mc,qI M.cs,qI M.cw,qI M.ck,qI M.cd,qI M.pc,qS N.ka M.kn N.kc,qS N.fa M.fn N.fc,qS N.ra M.rn N.rc,qS N.oa M.on N.oc,qI M.md,qI M.bk,qS N.la M.ln N.lc,qS N.ha M.hn N.hc,qI M.tn] 43)):=bal.alloc (by simp) _;have u0:=(Blk.new w #[qS M.ma M.mn M.mc,qI M.cs,qI M.cw,qI M.ck,qI M.cd,qI M.pc,qS M.ka M.kn M.kc,qS M.fa M.fn M.fc,qS M.ra M.rn M.rc,qS M.oa M.on M.oc,qI M.md,qI M.bk,qS M.la M.ln M.lc,qS M.ha M.hn M.hc,qI M.tn] 43).alloc (.cells #[qS N.ma M.mn N.mc,qI M.cs,qI M.cw,qI M.ck,qI M.cd,qI M.pc,qS N.ka M.kn N.kc,qS N.fa M.fn N.fc,qS N.ra M.rn N.rc,qS N.oa M.on N.oc,qI M.md,qI M.bk,qS N.la M.ln N.lc,qS N.ha M.hn N.hc,qI M.tn] 43);have v0:=Blk.new (w.alloc (.cells #[qS M.ma M.mn M.mc,qI M.cs,qI M.cw,qI M.ck,qI M.cd,qI M.pc,qS M.ka M.kn M.kc,qS M.fa M.fn M.fc,qS M.ra M.rn M.rc,qS M.oa M.on M.oc,qI M.md,qI M.bk,qS M.la M.ln M.lc,qS M.ha M.hn M.hc,qI M.tn] 43)) #[qS N.ma M.mn N.mc,qI M.cs,qI M.cw,qI M.ck,qI M.cd,qI M.pc,qS N.ka M.kn N.kc,qS N.fa M.fn N.fc,qS N.ra M.rn N.rc,qS N.oa M.on N.oc,qI M.md,qI M.bk,qS N.la M.ln N.lc,qS N.ha M.hn N.hc,qI M.tn] 43;try unfold qY at *
 simp only [xF] at v0;have x1:(M.md !=M.md)=false:=by simp
 have x2:(M.bk !=M.bk)=false:=by simp
 have x3:(M.tn !=M.tn)=false:=by simp
 have H1:=zh (fun (W:qw) (hb:qY w W)=>uG M.ma N.ma M.mn M.mc N.mc M.ms N.ms W (h.m.s.bw hb) (m'.s.bw hb) hm);have H2:=zh (fun (W:qw)=>wI M.cs M.cw M.ck M.cd W);have H3:=zh (fun (W:qw) (hb:qY w W)=>aDh M.pc M.ka N.ka M.kn M.kc N.kc M.kz W (h.k.bw hb) (k'.bw hb));have H4:=zh (fun (W:qw) (hb:qY w W)=>aFf M.fa M.ra M.oa N.fa N.ra N.oa M.fn M.fc M.rn M.rc M.on M.oc M.fn N.fc M.rn N.rc M.on N.oc M.fz M.rz M.oz W (h.f.bw hb) (h.r.bw hb) (h.o.bw hb) (f'.bw hb) (r'.bw hb) (o'.bw hb));have H5:=zh (fun (W:qw) (hb:qY w W)=>aBd M.la N.la M.ln M.lc N.lc M.lz W (h.l.bw hb) (l'.bw hb));have H6:=zh (fun (W:qw) (hb:qY w W)=>wG M.ha N.ha M.hn M.hc N.hc M.hz W (h.h.bw hb) (h'.bw hb));clear h m' k' f' r' o' l' h' hm;have HK:=zh (xA u0 v0);go_enter func11,ntmps11
 go_wp2_with fail
 refine (H1.o _ hB0).mono ?_;rintro e w1 ⟨rfl,hb⟩;have hB1:=hB0.trans (hb.mono (by have:=hB0.size;simp;omega));have K1:=xA (HK.o.1.bw hb) (HK.o.2.bw hb);clear hB0 u0 v0 hb HK;have p1:=K1.1.e1;have q1:=K1.2.e1;have p2:=K1.1.e2;have q2:=K1.2.e2;have p3:=K1.1.e3;have q3:=K1.2.e3;have p4:=K1.1.e4;have q4:=K1.2.e4;have HK:=zh K1;clear K1;go_wp2_with fail
 refine (H2.o _).mono ?_;rintro e w2 ⟨rfl,hb⟩;have hB2:=hB1.trans (hb.mono hB1.size);have K2:=xA (HK.o.1.bw hb) (HK.o.2.bw hb);clear hB1 hb HK p1 q1 p2 q2 p3 q3 p4 q4;have p5:=K2.1.e5;have q5:=K2.2.e5;have p6:=K2.1.e6;have q6:=K2.2.e6;have HK:=zh K2;clear K2;go_wp2_with fail
 refine (H3.o _ hB2).mono ?_;rintro e w3 ⟨rfl,hb⟩;have hB3:=hB2.trans (hb.mono hB2.size);have K3:=xA (HK.o.1.bw hb) (HK.o.2.bw hb);clear hB2 hb HK p5 q5 p6 q6;have p7:=K3.1.e7;have q7:=K3.2.e7;have p8:=K3.1.e8;have q8:=K3.2.e8;have p9:=K3.1.e9;have q9:=K3.2.e9;have HK:=zh K3;clear K3;go_wp2_with fail
 refine (H4.o _ hB3).mono ?_;rintro e w4 ⟨rfl,hb⟩;have hB4:=hB3.trans (hb.mono hB3.size);have K4:=xA (HK.o.1.bw hb) (HK.o.2.bw hb);clear hB3 hb HK p7 q7 p8 q8 p9 q9;have p10:=K4.1.e10;have q10:=K4.2.e10;have p11:=K4.1.e11;have q11:=K4.2.e11;have p12:=K4.1.e12;have q12:=K4.2.e12;have HK:=zh K4;clear K4;go_wp2_with fail
 refine (H5.o _ hB4).mono ?_;rintro e w5 ⟨rfl,hb⟩;have hB5:=hB4.trans (hb.mono hB4.size);have K5:=xA (HK.o.1.bw hb) (HK.o.2.bw hb);clear hB4 hb HK p10 q10 p11 q11 p12 q12;have p13:=K5.1.e13;have q13:=K5.2.e13;have HK:=zh K5;clear K5;go_wp2_with fail
 refine (H6.o _ hB5).mono ?_;rintro e w6 ⟨rfl,hb⟩;have hB6:=hB5.trans (hb.mono hB5.size);have K6:=xA (HK.o.1.bw hb) (HK.o.2.bw hb);clear hB5 hb HK p13 q13;have p14:=K6.1.e14;have q14:=K6.2.e14;clear K6;go_wp2;go_ret;exact ⟨rfl,hB6⟩
structure Mb where
 a1:qO
 c1:Nat
 a2:qO
 c2:Nat
 bl:List Bk
 a3:qO
 c3:Nat
 a5:qO
 c5:Nat
 a6:qO
 c6:Nat
 a7:qO
 c7:Nat
abbrev MOb (W:qw)(base:Nat)(x:PMod×Mb):Prop:=ModO W base x.1 x.2.a1 x.2.c1 x.2.a2 x.2.c2 x.2.bl x.2.a3 x.2.c3 x.2.a5 x.2.c5 x.2.a6 x.2.c6 x.2.a7 x.2.c7
def hdP (x:PMod×Mb):Hd×Ct:=(⟨x.2.a1,x.1.tz.length,x.2.c1,x.2.a2,x.2.bl.length,x.2.c2,bkF x.2.bl,x.2.a3,x.1.dz.length,x.2.c3,x.2.a5,x.1.rz.length,x.2.c5,x.2.a6,x.1.ss.length,x.2.c6,x.2.a7,x.1.es.length,x.2.c7⟩,⟨x.1.nm,x.1.tz,bkX x.2.bl,x.1.dz,x.1.bss,x.1.rz,x.1.ss,x.1.es⟩)
def clB (x:PMod×Mb):List Value:=clH (hdP x)
def mdP (x:PMod×Mb):Md:=⟨x.1.nm,x.2.a1,x.1.tz.length,x.2.c1,x.1.tz,x.2.a2,x.2.bl.length,x.2.c2,x.2.bl,x.2.a3,x.1.dz.length,x.2.c3,x.1.dz,x.1.bss,x.2.a5,x.1.rz.length,x.2.c5,x.1.rz,x.2.a6,x.1.ss.length,x.2.c6,x.1.ss,x.2.a7,x.1.es.length,x.2.c7,x.1.es⟩
theorem ModO.keptS {W W':qw}{x:PMod×Mb}(h:MOb W base x)(ht:Turn S W W')(hS:∀ {t:TypeId} {sz n:Nat} {v:Value} {xs:List Value},W.ownsRow base t sz v n xs->t≠138->∀ k,v.ownBlock=some k->¬ S k):MOb W' base x:=by
 have row:∀ {t:TypeId} {sz n:Nat} {v:Value} {xs:List Value},W.ownsRow base t sz v n xs->t≠138->W'.ownsRow base t sz v n xs:=fun {t} {sz} {n} {v} {xs} ho hne=>by
  have hk:=hS ho hne;obtain ⟨hl,h0|⟨g,cap,cur,hv,hg,hh,h1,h2,h3,h4⟩⟩:=ho
  .exact ⟨hl,.inl h0⟩
  .exact ⟨hl,.inr ⟨g,cap,cur,hv,hg,aF (w:=W) ht hh (hk g (by rw [hv];rfl)),h1,h2,h3,h4⟩⟩
 exact ⟨row h.t (by decide),⟨row h.b.head (by decide),fun B hB=>⟨(h.b.rows B hB).1,row (h.b.rows B hB).2 (by decide)⟩,h.b.apart⟩,h.bls,⟨row h.d.1 (by decide),h.d.2⟩,row h.r (by decide),row h.i (by decide),row h.e (by decide),h.tb,h.tr,h.br⟩
theorem ModO.blw {W W':qw}{x:PMod×Mb}(h:MOb W base x)(hb:qY W W'):MOb W' base x:=ModO.keptS h (S:=fun _=>False) (aJ hb) (fun _ _ _ _ s=>s)
structure OMp (W:qw)(base:Nat)(v:Value)(L:List (PMod×Mb))(β:Nat->Nat):Prop where
 o:OG 138 8 clB W base v L
 m:∀ (i:Nat) (x:PMod×Mb),L[i]?=some x->MOb W (β i) x/\PmG x.1/\∀ j,Sh (hdP x).1 j->j<β (i+1)
 mono:∀ i k,i<=k->k<=L.length->β i<=β k
 lo:base<=β 0
 hi:β L.length<=W.heap.size
theorem OMp.bw {W W':qw}{L:List (PMod×Mb)}(H:OMp W base v L β)(hb:qY W W'):OMp W' base v L β:=⟨H.o.bw hb,fun i x hx=>⟨ModO.blw (H.m i x hx).1 hb,(H.m i x hx).2⟩,H.mono,H.lo,xM H.hi hb.size⟩
theorem aK6 (L:List (PMod×Mb)):(L.map hdP).flatMap clH=L.flatMap clB:=by
 rw [List.flatMap_map];rfl
theorem OMp.oms {W:qw}{L:List (PMod×Mb)}(H:OMp W base v L β):OMs W base v (L.map hdP) β where
 o:=by
  have o:=H.o;unfold OG at o ⊢;rw [xH,aK6];exact o
 m:=fun i y hy=>by
  rw [List.getElem?_map,Option.map_eq_some_iff] at hy;obtain ⟨x,hx,rfl⟩:=hy;obtain ⟨h1,h2,h3⟩:=H.m i x hx;exact ⟨ModO.m6G h1 h2,h3⟩
 mono:=by rw [xH];exact H.mono
theorem OMp.msd {W:qw}{L:List (PMod×Mb)}(H:OMp W base v L β)(hl:L.length<=1048576):∃ a cap,v=qS a L.length cap/\MSD W a L.length cap (L.map mdP):=by
 obtain ⟨a,cap,rfl⟩:=aR H.o;refine ⟨a,cap,rfl,?_⟩;have hg:∀ i,i<L.length->∃ x,L[i]?=some x/\(L.map mdP).getD i aK=mdP x:=fun i hi=>⟨L[i],xN hi,by simp [xB,hi]⟩
 have hd:∀ i,i<L.length->((L.map mdP).getD i aK).md W:=fun i hi=>by
  obtain ⟨x,hx,e⟩:=hg i hi;rw [e];exact ModO.mdG (H.m i x hx).1 (H.m i x hx).2.1
 refine ⟨⟨by simp,by unfold maxLen;omega,fun hn=>?_,fun i hi=>?_,?_⟩,hd⟩
 .obtain ⟨g,cp,e,_⟩:=World.ownsRow.form H.o (by omega);simp only [Value.slice.injEq] at e;obtain ⟨rfl,-,rfl⟩:=e;refine ⟨g,0,rfl,fun i hi=>?_⟩;obtain ⟨x,hx,e⟩:=hg i hi;rw [e,Nat.zero_add]
  have k:∀ j,j<8->∀ u,(clB x)[j]?=some u->W.cell? (qR g (i*8+j))=some u:=fun j hj u hu=>by
   have q:=World.ownsRow.cells H.o (g:=g) rfl _ _ ((aA8 (fun _=>rfl) L i x hx j hj).trans hu)
   rwa [bN,Nat.zero_add] at q
  exact ⟨k 0 (by omega) _ rfl,k 1 (by omega) _ rfl,k 2 (by omega) _ rfl,k 3 (by omega) _ rfl,k 4 (by omega) _ rfl,k 5 (by omega) _ rfl,k 6 (by omega) _ rfl,k 7 (by omega) _ rfl⟩
 .obtain ⟨x,hx,e⟩:=hg i hi;have q:=hd i hi;rw [e] at q ⊢;exact aKb q
 .obtain ⟨_,h0|⟨g,cp,cur,hv,_,_,h1,_⟩⟩:=H.o
  .simp at h0;rw [h0.1.2.1];exact xC _
  .simp only [Value.slice.injEq] at hv;omega
theorem OMp.pms {W:qw}{L:List (PMod×Mb)}(H:OMp W base v L β):aD (L.map mdP)=L.map (fun x=>x.1):=by
 unfold aD;rw [List.map_map];apply List.ext_getElem
 .simp
 .intro i h1 h2;simp only [xH] at h1;have hb:=(H.m i L[i] (xN h1)).1.bls;simp only [List.getElem_map,Function.comp];generalize L[i]=x at *;obtain ⟨⟨nm,tz,bl,dz,bss,rz,ss,es⟩,y⟩:=x;simp only [Md.pm,mdP] at hb ⊢;rw [hb]
def bup (β:Nat->Nat)(n a b:Nat)(j:Nat):Nat:=if j<=n then (if j=n then a else β j) else b
theorem OMp.push {W w1 w2 w4:qw}{L:List (PMod×Mb)}{x:PMod×Mb}(H:OMp W base (qS a n c) L β)(hl:L.length=n)(b1:qY W w1)(hm:MOb w1 W.heap.size x)(R:PmG x.1)(b2:qY w1 w2)(hown:w4.ownsRow base 138 8 v' (n+1) (L.flatMap clB++clB x))(hgr:w2.grownBy w4 (qS a n c).ownBlock):OMp w4 base v' (L++[x]) (bup β n W.heap.size w1.heap.size):=by
 have b12:qY W w2:=b1.trans (b2.mono b1.size);have H2:=H.bw b12;have T:Turn (fun j=>(qS a n c).ownBlock=some j) w2 w4:=⟨hgr.os,hgr.tape,hgr.output,hgr.size,fun j hj hs=>hgr.block j hj (fun e=>hs e.symm)⟩
 have key:∀ {b:Nat} {y:PMod×Mb},MOb w2 b y->MOb w4 b y:=fun hy=>ModO.keptS hy T (fun ho hne k hk s=>by
  obtain ⟨c1,k1⟩:=aE ho hk;obtain ⟨c2,k2⟩:=aE H2.o s
  exact hne (aI k1 k2))
 have hb0:∀ i,i<n->bup β n W.heap.size w1.heap.size i=β i:=fun i hi=>by unfold bup;rw [if_pos (by omega),if_neg (by omega)]
 have hbn:bup β n W.heap.size w1.heap.size n=W.heap.size:=by unfold bup;rw [if_pos (by omega),if_pos rfl]
 have hb1:bup β n W.heap.size w1.heap.size (n+1)=w1.heap.size:=by unfold bup;rw [if_neg (by omega)]
 have hi:=H.hi;rw [hl] at hi;have mono:=H.mono;rw [hl] at mono;refine ⟨?_,fun i y hy=>?_,fun i k hik hk=>?_,?_,?_⟩
 .unfold OG;rw [xI,hl,xU,xX];exact hown
 .by_cases e:i=n
  .subst e;rw [List.getElem?_append_right (by omega),hl,Nat.sub_self] at hy;simp at hy;subst hy;rw [hbn,hb1];exact ⟨key (ModO.blw hm b2),R,fun j hj=>(M6h.sh (x:=hdP x) (ModO.m6G hm R) hj).1.2⟩
  .have hlt:=dJ hy;rw [xI,hl] at hlt;simp at hlt;rw [List.getElem?_append_left (by omega)] at hy;obtain ⟨q1,q2,q3⟩:=H2.m i y hy;rw [hb0 i (by omega)];refine ⟨key q1,q2,fun j hj=>?_⟩;have:=q3 j hj;by_cases e2:i+1=n
   .rw [e2,hbn];rw [e2] at this;omega
   .rw [hb0 (i+1) (by omega)];exact this
 .rw [xI,hl] at hk;simp at hk;have s1:=b1.size;unfold bup;by_cases c1:k<=n
  .rw [if_pos (by omega),if_pos c1];by_cases c2:k=n
   .rw [if_pos c2];split
    .exact aN
    .have:=mono i n (by omega) aN;omega
   .rw [if_neg c2,if_neg (by omega)];exact mono i k hik (by omega)
  .rw [if_neg c1];split
   .split
    .exact s1
    .have:=mono i n (by omega) aN;omega
   .exact aN
 .have lo:=H.lo;unfold bup;rw [if_pos (xC _)];split
  .have:=mono 0 n (xC _) aN;omega
  .exact lo
 .rw [xI,hl];show bup β n W.heap.size w1.heap.size (n+1)<=_;rw [hb1];have:=b2.size;have:=hgr.size;omega
theorem OMp.turn {W W':qw}{L:List (PMod×Mb)}(H:OMp W base v L β)(t:Turn S W W')(hS:∀ j,S j->j<base):OMp W' base v L β:=
 ⟨H.o.kept t (fun k hk s=>by have:=(H.o.lt k hk).1;have:=hS k s;omega),fun i x hx=>⟨ModO.keptS (H.m i x hx).1 t (fun ho _ k hk s=>by
  have h1:=(World.ownsRow.lt ho k hk).1;have h2:=hS k s;have h3:=H.mono 0 i (xC _) (Nat.le_of_lt (dJ hx));have h4:=H.lo
  omega),(H.m i x hx).2⟩,H.mono,H.lo,xM H.hi t.size⟩
theorem ModO.keptU {W W':qw}{x:PMod×Mb}(h:MOb W base x)(ht:Turn S W W')(hu:∀ j,Sh (hdP x).1 j->¬ S j)(h2:∀ j cs,Blk W j cs 25->¬ S j):MOb W' base x:=by
 have row:∀ {t:TypeId} {sz n:Nat} {v:Value} {xs:List Value},W.ownsRow base t sz v n xs->(∀ k,v.ownBlock=some k->¬ S k)->W'.ownsRow base t sz v n xs:=fun {t} {sz} {n} {v} {xs} ho hk=>by
  obtain ⟨hl,h0|⟨g,cap,cur,hv,hg,hh,h1,h2,h3,h4⟩⟩:=ho
  .exact ⟨hl,.inl h0⟩
  .exact ⟨hl,.inr ⟨g,cap,cur,hv,hg,aF (w:=W) ht hh (hk g (by rw [hv];rfl)),h1,h2,h3,h4⟩⟩
 exact ⟨row h.t (fun k hk=>hu k (.inl hk)),⟨row h.b.head (fun k hk s=>by obtain ⟨c,kb⟩:=aE h.b.head hk;exact h2 k c kb s),fun B hB=>⟨(h.b.rows B hB).1,row (h.b.rows B hB).2 (fun k hk=>hu k (.inr (.inl (by
  obtain ⟨i,hi,rfl⟩:=List.getElem_of_mem hB
  exact ⟨i,hi,by simpa [hdP,bkF,xB,hi] using hk⟩))))⟩,h.b.apart⟩,h.bls,⟨row h.d.1 (fun k hk=>hu k (.inr (.inr (.inl hk)))),h.d.2⟩,row h.r (fun k hk=>hu k (.inr (.inr (.inr (.inl hk))))),row h.i (fun k hk=>hu k (.inr (.inr (.inr (.inr (.inl hk)))))),row h.e (fun k hk=>hu k (.inr (.inr (.inr (.inr (.inr hk)))))),h.tb,h.tr,h.br⟩
theorem OMp.keep {W W':qw}{L:List (PMod×Mb)}(H:OMp W base v L β)(t:Turn S W W')(hv:∀ j,v.ownBlock=some j->¬ S j)(hS:∀ j,S j->β L.length<=j)(h2:∀ j cs,Blk W j cs 25->¬ S j):OMp W' base v L β:=
 ⟨H.o.kept t hv,fun i x hx=>⟨ModO.keptU (H.m i x hx).1 t (fun j hj s=>by
  have q1:=(H.m i x hx).2.2 j hj;have q2:=H.mono (i+1) L.length (dJ hx) aN;have q3:=hS j s
  omega) h2,(H.m i x hx).2⟩,H.mono,H.lo,xM H.hi t.size⟩
theorem aMo (W:qw)(base:Nat)(hb:base<=W.heap.size):OMp W base (qS none 0 0) [] (fun _=>W.heap.size):=⟨fJ _ _ _ _ _,fun i x hx=>by simp at hx,fun _ _ _ _=>aN,hb,aN⟩
theorem aA7 (zs:qi):zs.flatMap (fun z=>[Value.int .u8 z])=zs.map (Value.int .u8):=cZ _ zs
theorem aP3 {W:qw}{zs:qi}(h:OB W base v zs):OG 5 1 (fun z=>[Value.int .u8 z]) W base v zs:=by
 unfold OG;rw [aA7];exact h.1
theorem aNz {W:qw}{zs:qi}(h:OG 5 1 (fun z=>[Value.int .u8 z]) W base v zs)(hz:∀ z∈zs,0<=z/\z<=255):OB W base v zs:=by
 unfold OG at h;rw [aA7] at h;exact ⟨h,hz⟩
theorem aC5 (a:qO)(n cap:Nat)(zs:qi)(w:qw)(h:Srd (fun z=>[Value.int .u8 z]) w a n cap zs)(hb8:∀ z∈zs,0<=z/\z<=255)(hl:zs.length=n)(hn:n<=1048576):
 qC 149 #[qS a n cap] w fun e w'=>∃ a cap',e=.returned (qS a n cap')/\OB w' w.heap.size (qS a n cap') zs/\qY w w':=by
 obtain ⟨i0,hi,hz0,hz1,hz2⟩:=info_parts yO;have hsrc:=zh (h.bw ((Below.refl w.heap.size w).alloc aN (.cells #[] 5)));have hz:=zh hb8;have hown:=zh (bI 5 1 (fun z=>[Value.int .u8 z]) w w.heap.size aN);have hb:=zh ((Below.refl w.heap.size w).alloc aN (.cells #[] 5));clear h hb8;go_enter func149,ntmps149
 go_wp2_with (at_builtin;refine bG rfl _ _ 28 rfl w.heap.size 5 i0 (.int .u8 0) 1 1 underlying28 hi hz0 hz1 hz2 rfl (by decide) _ [] rfl hown.o a n cap zs rfl hsrc.o (fun _=>rfl) (fun y u hu=>by simp at hu;subst hu;rfl) (by unfold maxLen;simp;omega) (by simp;omega) (by simp) ?_;intro v' w1 hown1 hgr1)
 rw [List.nil_append] at hown1;obtain ⟨a',c',rfl⟩:=aR hown1;have HF:=zh (xA (aNz hown1 hz.o) (aG hb.o (S:=fun k=>k=w.heap.size) ⟨hgr1.os,hgr1.tape,hgr1.output,hgr1.size,fun k hk hs=>hgr1.block k hk (fun e=>hs (by cases e;rfl))⟩ (fun k hk=>by omega) (by simp)));rw [hl] at HF ⊢;clear hown1 hgr1;go_ret;exact ⟨a',c',rfl,HF.o.1,HF.o.2⟩
theorem oZ {b:Nat}{X W w6:qw}(h:Below b X W)(hs:b<=W.heap.size)(hv:v.ownBlock=some b)(G:W.grownBy w6 v.ownBlock):Below b X w6:=aG h (S:=fun k=>k=b) ⟨G.os,G.tape,G.output,G.size,fun k hk hs=>G.block k hk (fun e=>hs (by rw [hv] at e;cases e;rfl))⟩ (fun k hk=>by omega) hs
structure Cpb (W0 X:qw)(gm lo:Nat)(t1:qO)(e1:Nat)(tz:qi)(a2:qO)(c2:Nat)(bl:List Bk)(nm v3 v4 v5 v6 v7:Value):Prop where
 c:Cpm W0 X gm #[nm,qS t1 tz.length e1,qS a2 bl.length c2,v3,v4,v5,v6,v7]
 t:OG 3 1 clI X W0.heap.size (qS t1 tz.length e1) tz
 b:OBk X lo (qS a2 bl.length c2) bl
 tl:∀ k,(qS t1 tz.length e1).ownBlock=some k->k<lo
 gl:gm<lo
 lh:lo<=X.heap.size
section
variable {W0 X X' w' w4:qw}{gm lo:Nat}{t1:qO}{e1:Nat}{tz:qi}{a2:qO}{c2:Nat}{bl:List Bk}{nm v2 v3 v4 v5 v6 v7 u:Value}
theorem Cpb.bw (h:Cpb W0 X gm lo t1 e1 tz a2 c2 bl nm v3 v4 v5 v6 v7)(hb:qY X X'):Cpb W0 X' gm lo t1 e1 tz a2 c2 bl nm v3 v4 v5 v6 v7:=⟨h.c.bw hb,h.t.bw hb,h.b.turn (S:=fun _=>False) (aJ hb) (fun _ s=>absurd s id),h.tl,h.gl,xM h.lh hb.size⟩
theorem jM {t:TypeId}(G:(X.alloc (.cells #[] t)).grownBy w' (some X.heap.size)):qY X w':=aG (brf.alloc aN (.cells #[] t)) (S:=fun k=>k=X.heap.size) ⟨G.os,G.tape,G.output,G.size,fun k hk hs=>G.block k hk (fun e=>hs (by cases e;rfl))⟩ (fun k hk=>by omega) (by simp)
theorem Cpb.new (h:Cpm W0 X gm #[nm,qS t1 tz.length e1,v2,v3,v4,v5,v6,v7])(ht:OG 3 1 clI X W0.heap.size (qS t1 tz.length e1) tz):Cpb W0 ((X.alloc (.cells #[] 25)).setCell (qR gm 2) (qS (qP X.heap.size) 0 0)) gm X.heap.size t1 e1 tz (qP X.heap.size) 0 [] nm v3 v4 v5 v6 v7:=by
 have hb:qY X (X.alloc (.cells #[] 25)):=bal;have c1:=h.bw hb;obtain ⟨c2,t2⟩:=c1.set 2 (qS (qP X.heap.size) 0 0);refine ⟨c2,(ht.bw hb).kept t2 (fun k hk e=>?_),OBk.turn (w:=X.alloc (.cells #[] 25)) ⟨bI 25 1 (fun v:Value=>[v]) X X.heap.size aN,by simp,by simp⟩ t2 (fun k e hk=>by have:=h.k.lt;omega),fun k hk=>(ht.lt k hk).2,h.k.lt,by simp⟩;subst e;obtain ⟨c,kb⟩:=aE (ht.bw hb) hk;exact absurd (aI kb c1.k) (by decide)
theorem Cpb.bank {A:qO}{C:Nat}{x:qi}{d:Value}(h:Cpb W0 X gm lo t1 e1 tz a2 c2 bl nm v3 v4 v5 v6 v7)(O:OG 3 1 clI w' X.heap.size (qS A x.length C) x)(hb:qY X w')
 (hown:w4.ownsRow lo 25 1 d (bl.length+1) (bl.map (fun B=>qS B.1 B.2.1 B.2.2.1)++[qS A x.length C])) (hg:w'.grownBy w4 (qS a2 bl.length c2).ownBlock):
 Cpm W0 w4 gm #[nm,qS t1 tz.length e1,qS a2 bl.length c2,v3,v4,v5,v6,v7]/\∃ a2' c2',d=.slice a2' (bl++[((A,x.length,C,x):Bk)]).length c2'/\Cpb W0 (w4.setCell (qR gm 2) d) gm lo t1 e1 tz a2' c2' (bl++[((A,x.length,C,x):Bk)]) nm v3 v4 v5 v6 v7:=by
 have h1:=h.bw hb;have hX:=h.b;have B4:=h1.b.push rfl O h.lh (fun B hB j hj=>((h.b.rows B hB).2.lt j hj).2) hown hg;have lw:W0.heap.size<=lo:=by have:=h.c.g;have:=h.gl;omega
 have T:Turn (fun k=>(qS a2 bl.length c2).ownBlock=some k) w' w4:=⟨hg.os,hg.tape,hg.output,hg.size,fun k hk hs=>hg.block k hk (fun e=>hs e.symm)⟩
 have k4:Blk w4 gm #[nm,qS t1 tz.length e1,qS a2 bl.length c2,v3,v4,v5,v6,v7] 138:=cK hg h1.c.k (fun e=>by
  obtain ⟨c,kb⟩:=aE h1.b.head e.symm
  exact absurd (aI kb h1.c.k) (by decide))
 have t4:=h1.t.kept T (fun k hk s=>by
  obtain ⟨c,kb⟩:=aE h1.t hk;obtain ⟨c',kb'⟩:=aE h1.b.head s
  exact absurd (aI kb kb') (by decide))
 have c4:Cpm W0 w4 gm #[nm,qS t1 tz.length e1,qS a2 bl.length c2,v3,v4,v5,v6,v7]:=⟨aG h1.c.b T (fun k hk=>by have:=(h1.b.lt k hk).1;omega) h1.c.b.size,k4,h1.c.g⟩;obtain ⟨a',c',rfl⟩:=aH4 B4;obtain ⟨c5,t5⟩:=c4.set 2 (.slice a' (bl++[((A,x.length,C,x):Bk)]).length c');refine ⟨c4,a',c',rfl,c5,t4.kept t5 (fun k hk e=>?_),B4.turn t5 (fun k e hk=>by have:=h.gl;omega),h.tl,h.gl,by rw [aL];exact xM h1.lh hg.size⟩;subst e;obtain ⟨c,kb⟩:=aE t4 hk;exact absurd (aI kb k4) (by decide)
theorem Cpb.put (h:Cpb W0 X gm lo t1 e1 tz a2 c2 bl nm v3 v4 v5 v6 v7)(hb:qY X w')(j:Nat)(e:(#[nm,qS t1 tz.length e1,qS a2 bl.length c2,v3,v4,v5,v6,v7]:Array Value).setIfInBounds j u=#[nm,qS t1 tz.length e1,qS a2 bl.length c2,v3',v4',v5',v6',v7']):
 Cpb W0 (w'.setCell (qR gm j) u) gm lo t1 e1 tz a2 c2 bl nm v3' v4' v5' v6' v7'/\Turn (fun j=>j=gm\/X.heap.size<=j) X (w'.setCell (qR gm j) u):=by
 have h1:=h.bw hb;obtain ⟨c5,t5⟩:=h1.c.set j u;rw [e] at c5;refine ⟨⟨c5,h1.t.kept t5 (fun k hk e=>?_),h1.b.turn t5 (fun k e hk=>by have:=h.gl;omega),h.tl,h.gl,by rw [aL];exact h1.lh⟩,(aJ hb).trans (t5.mono (fun k hk=>.inl hk))⟩;subst e;obtain ⟨c,kb⟩:=aE h1.t hk;exact absurd (aI kb h1.c.k) (by decide)
theorem aF7 {t:TypeId}{b:Nat}{xs:List Value}(h:X.ownsRow b t sz v n xs)(kg:Blk X gm cs 138)(hne:t≠138)(j:Nat)(u:Value):(X.setCell (qR gm j) u).ownsRow b t sz v n xs:=cG ((aC X gm j u).mono (fun k hk=>.inl hk)) kg h hne
theorem Cpb.row {α:Type}{f:α->List Value}{t:TypeId}{ys:List α}(h:Cpb W0 X gm lo t1 e1 tz a2 c2 bl nm v3 v4 v5 v6 v7)(O:OG t sz f w' X.heap.size v' ys)(hb:qY X w')(hne:t≠138)(j:Nat)(e:(#[nm,qS t1 tz.length e1,qS a2 bl.length c2,v3,v4,v5,v6,v7]:Array Value).setIfInBounds j v'=#[nm,qS t1 tz.length e1,qS a2 bl.length c2,v3',v4',v5',v6',v7']):
 Cpb W0 w' gm lo t1 e1 tz a2 c2 bl nm v3 v4 v5 v6 v7/\Cpb W0 (w'.setCell (qR gm j) v') gm lo t1 e1 tz a2 c2 bl nm v3' v4' v5' v6' v7'/\OG t sz f (w'.setCell (qR gm j) v') X.heap.size v' ys/\Turn (fun j=>j=gm\/X.heap.size<=j) X (w'.setCell (qR gm j) v')/\X.heap.size<=w'.heap.size:=by
 have h1:=h.bw hb;obtain ⟨c2,t2⟩:=h.put hb j e;exact ⟨h1,c2,aF7 O h1.c.k hne j v',t2,hb.size⟩
theorem Cpb.apart {α:Type}{f:α->List Value}{t:TypeId}{ys:List α}(h:Cpb W0 X gm lo t1 e1 tz a2 c2 bl nm v3 v4 v5 v6 v7)(O:OG t sz f w' X.heap.size v' ys):∀ k,v'.ownBlock=some k->(qS t1 tz.length e1).ownBlock≠some k/\∀ B∈bl,(qS B.1 B.2.1 B.2.2.1).ownBlock≠some k:=fun k hk=>by
 have h0:=(O.lt k hk).1;exact ⟨fun e=>by have:=(h.t.lt k e).2;omega,fun B hB e=>by have:=((h.b.rows B hB).2.lt k e).2;omega⟩
theorem Cpb.done {P:PMod}{a3 a6 a7:qO}{c3 c6 c7 q3 q5 q6 q7:Nat}(h:Cpb W0 X gm lo t1 e1 P.tz a2 c2 bl nm v3 v4 v5 v6 v7)(hbl:bl.map (fun B=>B.2.2.2)=P.bl)(hz:∀ z∈P.dz,0<=z/\z<=255)
 (h3:OG 5 1 (fun z=>[Value.int .u8 z]) X q3 (qS a3 P.dz.length c3) P.dz) (l3:W0.heap.size<=q3) (h5:OG 3 1 clI X q5 (qS a5 P.rz.length c5) P.rz) (l5:W0.heap.size<=q5) (h6:OG 9 1 clT X q6 (qS a6 P.ss.length c6) P.ss) (l6:W0.heap.size<=q6) (h7:OG 163 3 clX X q7 (qS a7 P.es.length c7) P.es) (l7:W0.heap.size<=q7)
 (hap:∀ k,(qS a5 P.rz.length c5).ownBlock=some k->(qS t1 P.tz.length e1).ownBlock≠some k/\∀ B∈bl,(qS B.1 B.2.1 B.2.2.1).ownBlock≠some k):ModO X W0.heap.size P t1 e1 a2 c2 bl a3 c3 a5 c5 a6 c6 a7 c7 where
 t:=h.t
 b:=h.b.mono (by have:=h.c.g;have:=h.gl;omega)
 bls:=hbl
 d:=aNz (h3.mono l3) hz
 r:=h5.mono l5
 i:=h6.mono l6
 e:=h7.mono l7
 tb:=fun k hk B hB e=>by have h1:=h.tl k hk;have h2:=((h.b.rows B hB).2.lt k e).1;omega
 tr:=fun k hk e=>(hap k e).1 hk
 br:=fun k hk B hB=>(hap k hk).2 B hB
end
theorem aGu {α:Type}{f:α->List Value}{sz:Nat}(hf:∀ x,(f x).length=sz):∀ (L:List α) (j:Nat) (u:Value),(L.flatMap f)[j]?=some u->∃ i x r,L[i]?=some x/\j=i*sz+r/\(f x)[r]?=some u
 | [],j,u,h=>by simp at h
 | y::L,j,u,h=>by
   have hy:=hf y;rw [xT] at h;by_cases c:j<(f y).length
   .rw [List.getElem?_append_left c] at h;exact ⟨0,y,j,rfl,by omega,h⟩
   .rw [List.getElem?_append_right (by omega)] at h;obtain ⟨i,x,r,h1,h2,h3⟩:=aGu hf L _ u h;exact ⟨i+1,x,r,by simpa using h1,by rw [Nat.add_mul];omega,h3⟩
section
variable {w:qw}{b off n cap:Nat}
theorem aE2 {zs:qi}(h:IS w (some (qR b off)) n cap zs):Srd clI w (some (qR b off)) n cap zs:=⟨h.1,.inr ⟨b,off,rfl,fun j u hu=>by
 have e:zs.flatMap clI=zs.map (Value.int .i64):=cZ _ zs;rw [e] at hu;have q:=aA3 h j u hu
 rwa [bN] at q⟩⟩
theorem aPm {zs:qi}(h:BS w (some (qR b off)) n cap zs):Srd (fun z=>[Value.int .u8 z]) w (some (qR b off)) n cap zs:=⟨h.1,.inr ⟨b,off,rfl,fun j u hu=>by
 rw [aA7] at hu;have q:=aBl h j u hu
 rwa [bN] at q⟩⟩
theorem aOp {ss:List ByteArray}(h:SS w (some (qR b off)) n cap ss):Srd clT w (some (qR b off)) n cap ss:=⟨h.1,.inr ⟨b,off,rfl,fun j u hu=>by
 have e:ss.flatMap clT=ss.map Value.string:=cZ _ ss;rw [e,List.getElem?_map,Option.map_eq_some_iff] at hu;obtain ⟨s,hs,rfl⟩:=hu;have hj:=dJ hs;have hl:=h.1;obtain ⟨b',off',e',hc⟩:=h.2.2.2.1 (by omega);cases e'
 have:=hc j (by omega)
 simpa [xB,hs] using this⟩⟩
theorem aPh {es:List Ex}(h:ES w (some (qR b off)) n cap es):Srd clX w (some (qR b off)) n cap es:=⟨h.1,.inr ⟨b,off,rfl,fun j u hu=>by
 obtain ⟨i,x,r,h1,rfl,h3⟩:=aGu (sz:=3) (fun _=>rfl) es j u hu;have hj:=dJ h1;have hl:=h.1;obtain ⟨b',off',e',hc⟩:=h.2.2.2.1 (by omega);cases e'
 obtain ⟨c0,c1,c2⟩:=hc i (by omega);have ex:es.getD i zE=x:=by simp [xB,h1]
 rw [ex] at c0 c1 c2
 match r,h3 with
 | 0,h3=>simp [clX] at h3;subst h3;exact c0
 | 1,h3=>simp [clX] at h3;subst h3;exact c1
 | 2,h3=>simp [clX] at h3;subst h3;exact c2
 | _+3,h3=>simp [clX] at h3⟩⟩
end
theorem jY {α:Type}{t:TypeId}{f:α->List Value}{w:qw}{xs:List α}(h:OG t sz f w base (qS a n c) xs):n=xs.length:=by
 obtain ⟨a',c',e⟩:=aR h;simp only [Value.slice.injEq] at e;exact e.2.1
theorem sR {w:qw}{zs:qi}(h:OI w base (qS a n c) zs):n=zs.length:=by
 obtain ⟨_,h0|⟨g,cp,cur,hv,_⟩⟩:=h.1
 .simp at h0;rw [h0.1.2.1,h0.2];rfl
 .simp only [Value.slice.injEq] at hv;exact hv.2.1
theorem eE {w:qw}{zs:qi}(h:OB w base (qS a n c) zs):n=zs.length:=by
 obtain ⟨_,h0|⟨g,cp,cur,hv,_⟩⟩:=h.1
 .simp at h0;rw [h0.1.2.1,h0.2];rfl
 .simp only [Value.slice.injEq] at hv;exact hv.2.1
structure Msr (W:qw)(x:PMod×Mb):Prop where
 t:Srd clI W x.2.a1 x.1.tz.length x.2.c1 x.1.tz
 b:∀ k,k<x.2.bl.length->∃ gb A C zs,x.2.a2=some (qR gb 0)/\x.2.bl[k]?=some (A,zs.length,C,zs)/\W.cell? (qR gb k)=some (qS A zs.length C)/\Srd clI W A zs.length C zs
 bls:x.2.bl.map (fun B=>B.2.2.2)=x.1.bl
 d:Srd (fun z=>[Value.int .u8 z]) W x.2.a3 x.1.dz.length x.2.c3 x.1.dz
 r:Srd clI W x.2.a5 x.1.rz.length x.2.c5 x.1.rz
 i:Srd clT W x.2.a6 x.1.ss.length x.2.c6 x.1.ss
 e:Srd clX W x.2.a7 x.1.es.length x.2.c7 x.1.es
theorem aGz {W W':qw}(hb:qY W W'){a:Addr}(h:W.cell? a=some v):W'.cell? a=some v:=(hb.cell (xD W _ h)).trans h
theorem Msr.bw {W W':qw}{x:PMod×Mb}(h:Msr W x)(hb:qY W W'):Msr W' x:=
 ⟨h.t.bw hb,fun k hk=>by obtain ⟨gb,A,C,zs,e1,e2,e3,o⟩:=h.b k hk;exact ⟨gb,A,C,zs,e1,e2,aGz hb e3,o.bw hb⟩,h.bls,h.d.bw hb,h.r.bw hb,h.i.bw hb,h.e.bw hb⟩
structure OMq (W:qw)(a:qO)(L:List (PMod×Mb)):Prop where
 o:∀ (i:Nat) (x:PMod×Mb),L[i]?=some x->∃ g,a=some (qR g 0)/\At8 W g (i*8) (mdP x)
 m:∀ (i:Nat) (x:PMod×Mb),L[i]?=some x->Msr W x/\PmG x.1
theorem OMq.bw {W W':qw}{L:List (PMod×Mb)}(h:OMq W a L)(hb:qY W W'):OMq W' a L:=
 ⟨fun i x hx=>by obtain ⟨g,e,h8⟩:=h.o i x hx;exact ⟨g,e,h8.bw hb⟩,fun i x hx=>⟨(h.m i x hx).1.bw hb,(h.m i x hx).2⟩⟩
theorem OMq.srcM {W:qw}{L:List (PMod×Mb)}{i:Nat}{P:PMod}{b1 b2 b3 b5 b6 b7:qO}{d1 d2 d3 d5 d6 d7:Nat}{bq:List Bk}(H:OMq W (qP g) L)(hx:L[i]?=some (P,⟨b1,d1,b2,d2,bq,b3,d3,b5,d5,b6,d6,b7,d7⟩)):
 (W.cell? (qR g (i*8))=some (.string P.nm)/\W.cell? (qR g (i*8+1))=some (qS b1 P.tz.length d1)/\W.cell? (qR g (i*8+2))=some (qS b2 bq.length d2)/\W.cell? (qR g (i*8+3))=some (qS b3 P.dz.length d3)/\W.cell? (qR g (i*8+4))=some (qI P.bss)/\W.cell? (qR g (i*8+5))=some (qS b5 P.rz.length d5)/\W.cell? (qR g (i*8+6))=some (qS b6 P.ss.length d6)/\W.cell? (qR g (i*8+7))=some (qS b7 P.es.length d7))/\Msr W (P,⟨b1,d1,b2,d2,bq,b3,d3,b5,d5,b6,d6,b7,d7⟩)/\PmG P:=by
 obtain ⟨g',e,h8⟩:=H.o i _ hx;cases e
 exact ⟨h8,(H.m i _ hx).1,(H.m i _ hx).2⟩
theorem lC {α β:Type}{f:α->β}{l:List α}{x:α}(h:l[k]?=some x):(l.take (k+1)).map f=(l.take k).map f++[f x]:=by
 rw [List.take_add_one,h,List.map_append];rfl
theorem aGb {W:qw}{L:List (PMod×Mb)}(hl:L.length=n)(h:OG 138 8 clB W base v L):W.ownsRow base 138 8 v n (L.flatMap clB):=by
 subst hl;exact h
theorem aEc {w W0 X w4:qw}{L:List (PMod×Mb)}(O:OMp W0 w.heap.size v L β)(B:qY w W0)(B1:qY W0 X)(hgr:X.grownBy w4 v.ownBlock):qY w w4:=
 aG (B.trans (B1.mono B.size)) (S:=fun q=>v.ownBlock=some q) ⟨hgr.os,hgr.tape,hgr.output,hgr.size,fun q hq hs=>hgr.block q hq (fun e=>hs e.symm)⟩ (fun q hq=>(O.o.lt q hq).1) (xM B.size B1.size)
def TMx (W W':qw):Prop:=Turn (fun j=>∃ cs,Blk W j cs 43) W W'
theorem ModO.keptM {W W':qw}{x:PMod×Mb}(h:MOb W base x)(ht:Turn S W W')(hS:∀ {t:TypeId} {sz n:Nat} {v:Value} {xs:List Value},W.ownsRow base t sz v n xs->t≠43->∀ k,v.ownBlock=some k->¬ S k):MOb W' base x:=by
 have row:∀ {t:TypeId} {sz n:Nat} {v:Value} {xs:List Value},W.ownsRow base t sz v n xs->t≠43->W'.ownsRow base t sz v n xs:=fun {t} {sz} {n} {v} {xs} ho hne=>by
  have hk:=hS ho hne;obtain ⟨hl,h0|⟨g,cap,cur,hv,hg,hh,h1,h2,h3,h4⟩⟩:=ho
  .exact ⟨hl,.inl h0⟩
  .exact ⟨hl,.inr ⟨g,cap,cur,hv,hg,aF (w:=W) ht hh (hk g (by rw [hv];rfl)),h1,h2,h3,h4⟩⟩
 exact ⟨row h.t (by decide),⟨row h.b.head (by decide),fun B hB=>⟨(h.b.rows B hB).1,row (h.b.rows B hB).2 (by decide)⟩,h.b.apart⟩,h.bls,⟨row h.d.1 (by decide),h.d.2⟩,row h.r (by decide),row h.i (by decide),row h.e (by decide),h.tb,h.tr,h.br⟩
theorem jN {W:qw}{t:TypeId}{xs:List Value}(h:W.ownsRow base t sz v n xs)(ht:t≠43):∀ k,v.ownBlock=some k->¬ ∃ cs,Blk W k cs 43:=fun k hk ⟨cs,kk⟩=>by
 obtain ⟨c1,k1⟩:=aE h hk;exact ht (aI k1 kk)
theorem cR {W W':qw}(h:qY W W'):TMx W W':=aJ h
theorem TMx.trans {A B C:qw}(h:TMx A B)(k:TMx B C):TMx A C:=
 ⟨k.os.trans h.os,k.tape.trans h.tape,k.output.trans h.output,xM h.size k.size,fun j hj hs=>by
  have e:=h.block j hj hs
  exact (k.block j (Nat.lt_of_lt_of_le hj h.size) (fun ⟨cs,kb⟩=>hs ⟨cs,e.symm.trans kb⟩)).trans e⟩
theorem dS {W W':qw}(kb:Blk W g cs 43)(t:Turn (fun j=>j=g) W W'):TMx W W':=t.mono (fun j hj=>by subst hj;exact ⟨_,kb⟩)
theorem OMp.tm {W W':qw}{L:List (PMod×Mb)}(h:OMp W base v L β)(t:TMx W W'):OMp W' base v L β:=
 ⟨h.o.kept t (jN h.o (by decide)),fun i x hx=>⟨ModO.keptM (h.m i x hx).1 t (fun ho hne=>jN ho hne),(h.m i x hx).2⟩,h.mono,h.lo,xM h.hi t.size⟩
theorem OI.tm {W W':qw}{zs:qi}(h:OI W base v zs)(t:TMx W W'):OI W' base v zs:=aX t h (jN h.1 (by decide))
theorem rB {W:qw}{x1 x2 x3:qi}(h:gL W base v1 v2 v3 x1 x2 x3):OM W base v1 v2 v3 x1 x2 x3:=by
 obtain ⟨h1,h2,h3,a12,a13,a23⟩:=h;exact ⟨h1,h2,h3,fun k hk e=>Nat.lt_irrefl k (a12 k k hk e),fun k hk e=>Nat.lt_irrefl k (a13 k k hk e),fun k hk e=>Nat.lt_irrefl k (a23 k k hk e)⟩
section
variable {W W':qw}{base base':Nat}{v1 v2 v3:Value}{x1 x2 x3:qi}
theorem eC (h:gL W base v1 v2 v3 x1 x2 x3)(t:Turn S W W')(hs:∀ j,qN v1 v2 v3 j->¬ S j):gL W' base v1 v2 v3 x1 x2 x3:=⟨aV t h.1 (fun k hk=>hs k (.inl hk)),aV t h.2.1 (fun k hk=>hs k (.inr (.inl hk))),aV t h.2.2.1 (fun k hk=>hs k (.inr (.inr hk))),h.2.2.2⟩
theorem aGc (h:gL W base v1 v2 v3 x1 x2 x3)(t:TMx W W'):gL W' base v1 v2 v3 x1 x2 x3:=eC h t (fun j hj=>by rcases hj with e|e|e;exact jN h.1.1 (by decide) j e;exact jN h.2.1.1 (by decide) j e;exact jN h.2.2.1.1 (by decide) j e)
end
structure Cn where
 ps:List PMod
 cs:Int
 cw:Int
 ck:Int
 cd:Int
 pc:Int
 kz:List Int
 fz:List Int
 rz:List Int
 oz:List Int
 md:Int
 bk:Int
 lz:List SlT
 hz:List FrT
 tn:Int
def Mn.cn (M:Mn):Cn:=⟨aD M.ms,M.cs,M.cw,M.ck,M.cd,M.pc,M.kz,M.fz,M.rz,M.oz,M.md,M.bk,M.lz,M.hz,M.tn⟩
def szc (P:PMod):Nat:=2+P.tz.length+(P.bl.map List.length).sum+P.dz.length+P.rz.length+P.ss.length+3*P.es.length
def mkn (C:Cn):Nat:=1+(C.ps.map szc).sum+C.kz.length+C.fz.length+C.rz.length+C.oz.length+4*C.lz.length+4*C.hz.length
theorem aBw {α:Type}(f:α->Nat)(z:α)(l:List α):∀ k,k<=l.length->upS (fun j=>f (l.getD j z)) k=((l.take k).map f).sum
 | 0,_=>by simp [upS]
 | k+1,h=>by
   rw [upS,aBw f z l k (by omega),List.take_add_one,List.map_append,List.sum_append];congr 1;simp [xB,show k<l.length by omega]
theorem yY {α:Type}(f:α->Nat)(z:α)(l:List α):upS (fun j=>f (l.getD j z)) l.length=(l.map f).sum:=by
 rw [aBw f z l _ aN,List.take_length]
structure MxO (W:qw)(base mid:Nat)(C:Cn)(M:Mn)(L:List (PMod×Mb))(β:Nat->Nat):Prop where
 m:OMp W base (qS M.ma M.mn M.mc) L β
 e:L.map (fun x=>x.1)=C.ps
 k:OI W mid (qS M.ka M.kn M.kc) C.kz
 q:gL W mid (qS M.fa M.fn M.fc) (qS M.ra M.rn M.rc) (qS M.oa M.on M.oc) C.fz C.rz C.oz
 l:OG 142 4 bS W mid (qS M.la M.ln M.lc) C.lz
 h:OG 135 4 cP W mid (qS M.ha M.hn M.hc) C.hz
 bm:base<=mid
 bh:β L.length<=mid
 vs:M.cs=C.cs/\M.cw=C.cw/\M.ck=C.ck/\M.cd=C.cd/\M.pc=C.pc/\M.md=C.md/\M.bk=C.bk/\M.tn=C.tn
 vz:M.ms=L.map mdP/\M.kz=C.kz/\M.fz=C.fz/\M.rz=C.rz/\M.oz=C.oz/\M.lz=C.lz/\M.hz=C.hz
section
variable {W W':qw}{base mid base' mid':Nat}{C:Cn}{M N:Mn}{L L':List (PMod×Mb)}{β β':Nat->Nat}
theorem MxO.bw (h:MxO W base mid C M L β)(hb:qY W W'):MxO W' base mid C M L β:=⟨h.m.bw hb,h.e,h.k.bw hb,sJ h.q hb,h.l.bw hb,h.h.bw hb,h.bm,h.bh,h.vs,h.vz⟩
theorem MxO.turn (h:MxO W base mid C M L β)(t:Turn S W W')(hS:∀ j,S j->j<base):MxO W' base mid C M L β:=
 ⟨h.m.turn t hS,h.e,aX t h.k (fun k hk s=>by have:=(h.k.lt k hk).1;have:=hS k s;have:=h.bm;omega),eC h.q t (fun j hj s=>by have:=((rB h.q).lt hj).1;have:=hS j s;have:=h.bm;omega),h.l.kept t (fun k hk s=>by have:=(h.l.lt k hk).1;have:=hS k s;have:=h.bm;omega),h.h.kept t (fun k hk s=>by have:=(h.h.lt k hk).1;have:=hS k s;have:=h.bm;omega),h.bm,h.bh,h.vs,h.vz⟩
theorem MxO.len (h:MxO W base mid C M L β):L.length=M.mn:=(jY h.m.o).symm
theorem MxO.mnd (h:MxO W base mid C M L β)(hn:M.mn<=1048576):MnD W M:=by
 have h1:=h.len;obtain ⟨a,cap,e,hm⟩:=h.m.msd (by omega);simp only [Value.slice.injEq] at e;obtain ⟨e1,e2,e3⟩:=e;rw [h1,<- e1,<- e3] at hm;obtain ⟨v1,v2,v3,v4,v5,v6,v7⟩:=h.vz;exact ⟨by rw [v1];exact hm,by rw [v2];exact h.k.is,by rw [v3];exact h.q.1.bs,by rw [v4];exact h.q.2.1.bs,by rw [v5];exact h.q.2.2.1.bs,by rw [v6];exact sS (fun _=>rfl) h.l,by rw [v7];exact sS (fun _=>rfl) h.h⟩
theorem MxO.sam (h:MxO W base mid C M L β)(h':MxO W' base' mid' C N L' β'):Sam M N:=by
 have l1:=h.len;have l1':=h'.len;obtain ⟨s1,s2,s3,s4,s5,s6,s7,s8⟩:=h.vs;obtain ⟨t1,t2,t3,t4,t5,t6,t7,t8⟩:=h'.vs;obtain ⟨v1,v2,v3,v4,v5,v6,v7⟩:=h.vz;obtain ⟨u1,u2,u3,u4,u5,u6,u7⟩:=h'.vz;have he:L.map (fun x=>x.1)=L'.map (fun x=>x.1):=h.e.trans h'.e.symm;have hl:L.length=L'.length:=by have:=congrArg List.length he;simpa using this
 refine ⟨⟨by rw [s1,t1],by rw [s2,t2],by rw [s3,t3],by rw [s4,t4],by rw [s5,t5],by rw [s6,t6],by rw [s7,t7],by rw [s8,t8]⟩,⟨by omega,by rw [sR h.k,sR h'.k],by rw [eE h.q.1,eE h'.q.1],by rw [eE h.q.2.1,eE h'.q.2.1],by rw [eE h.q.2.2.1,eE h'.q.2.2.1],by rw [jY h.l,jY h'.l],by rw [jY h.h,jY h'.h]⟩,⟨by rw [v2,u2],by rw [v3,u3],by rw [v4,u4],by rw [v5,u5],by rw [v6,u6],by rw [v7,u7]⟩,fun i hi=>?_⟩;rw [v1,u1];have hi1:i<L.length:=by omega
 have hi2:i<L'.length:=by omega
 have g1:(L.map mdP).getD i aK=mdP L[i]:=by simp [xB,hi1]
 have g2:(L'.map mdP).getD i aK=mdP L'[i]:=by simp [xB,hi2]
 rw [g1,g2];have m1:=(h.m.m i L[i] (xN hi1)).1;have m2:=(h'.m.m i L'[i] (xN hi2)).1
 have e1:L[i].1=L'[i].1:=by
  have:=congrArg (fun l=>l[i]?) he;simpa [hi1,hi2] using this
 generalize L[i]=x at *;generalize L'[i]=y at *;obtain ⟨P,x⟩:=x;obtain ⟨P',y⟩:=y;dsimp only at e1;subst e1;obtain ⟨hl2,hz⟩:=ModO.same m1 m2;exact ⟨rfl,rfl,rfl,hl2,hz,rfl,rfl,rfl,rfl,rfl,rfl,rfl,rfl,rfl⟩
theorem MxO.mno (h:MxO W base mid C M L β):MnO W base (qS M.ma M.mn M.mc) ((L.map hdP).map fun x=>x.1) (L.map hdP) β (qS M.ka M.kn M.kc) (qS M.fa M.fn M.fc) (qS M.ra M.rn M.rc) (qS M.oa M.on M.oc) (qS M.la M.ln M.lc) (qS M.ha M.hn M.hc) C.kz C.fz C.rz C.oz C.lz C.hz:=by
 have hb:=h.bh
 have no:∀ j,mid<=j->¬ ShL ((L.map hdP).map fun x=>x.1) j:=fun j hj ⟨i,hi,hs⟩=>by
  simp only [xH] at hi;have e:((L.map hdP).map fun x=>x.1).getD i zHd=(hdP L[i]).1:=by simp [xB,hi]
  rw [e] at hs;have h1:=(h.m.m i L[i] (xN hi)).2.2 j hs;have h2:=h.m.mono (i+1) L.length (by omega) aN;omega
 exact ⟨h.m.oms,rfl,h.k.mono h.bm,(rB h.q).mono h.bm,h.l.mono h.bm,h.h.mono h.bm,fun j hj=>no j (h.k.lt j hj).1,fun j hj=>no j ((rB h.q).lt hj).1,fun i x hx=>xM h.m.lo (h.m.mono 0 i (xC _) (by have:=dJ hx;rw [xH] at this;omega))⟩
theorem MxO.cnt (h:MxO W base mid C M L β):1+upS (fun j=>aZ (((L.map hdP).map fun x=>x.1).getD j zHd)) M.mn+M.kn+M.fn+M.rn+M.on+4*M.ln+4*M.hn=mkn C/\∀ i,i<M.mn->(((L.map hdP).map fun x=>x.1).getD i zHd).bn<=1048576:=by
 have l1:=h.len
 have e1:upS (fun j=>aZ (((L.map hdP).map fun x=>x.1).getD j zHd)) M.mn=(C.ps.map szc).sum:=by
  have hl:M.mn=((L.map hdP).map fun x=>x.1).length:=by simp [l1]
  rw [hl,yY aZ zHd,<- h.e,List.map_map,List.map_map,List.map_map];congr 1;apply List.map_congr_left;intro x hx;obtain ⟨i,hi,rfl⟩:=List.getElem_of_mem hx;have s:=(ModO.sum (h.m.m i L[i] (xN hi)).1).1;simp only [Function.comp,aZ,hdP,szc];rw [s]
 have k1:=sR h.k;have k2:=eE h.q.1;have k3:=eE h.q.2.1;have k4:=eE h.q.2.2.1;have k5:=jY h.l;have k6:=jY h.h;refine ⟨by unfold mkn;rw [e1];omega,fun i hi=>?_⟩;have hi1:i<L.length:=by omega
 have e:((L.map hdP).map fun x=>x.1).getD i zHd=(hdP L[i]).1:=by simp [xB,hi1]
 rw [e];obtain ⟨m1,R,_⟩:=h.m.m i L[i] (xN hi1);have s:=(ModO.sum m1).2;have:=R.b.1;show L[i].2.bl.length<=_;omega
end
theorem sL {w:qw}{rs:List Rg}(h:ORg w base (qS a n cap) rs)(k:Nat)(hk:(qS a n cap).ownBlock=some k):base<=k:=by
 obtain ⟨hl,⟨h0,_⟩|⟨g',cap',cur,hv,hg,hh,h1,h2,h3,h4⟩⟩:=h.1
 .rw [h0] at hk;cases hk
 .rw [hv] at hk;have e:some g'=some k:=hk;injection e with e
  omega
theorem aEv (A:qO)(m cap:Nat)(rs:List Rg)(f s:Int)(r x y:Bool)(base:Nat)(w:qw)(hb:base<=w.heap.size)(h:ORg w base (qS A m cap) rs)(hf:wfi f)(hs:wfi s)(hm:m<=1000000):
 qC 183 #[qS A m cap,qI f,qI s,.bool r,.bool x,.bool y] w fun e w'=>∃ A' m' cap',e=.returned (qS A' m' cap')/\m'=m+(cvL f s).length/\ORg w' base (qS A' m' cap') (rs++rts r x y (cvL f s))/\Below base w w':=by
 obtain ⟨i0,hi,hz0,hz1,hz2⟩:=info_parts aGn;have HC:=zh (aD8 f s w (by unfold wfi at hf;omega) (by unfold wfi at hs;omega));have HL:=zh (rM f s);have HO0:=zh h;have HLEN0:=zh (fA h).1;generalize cvL f s=C at *;clear h;go_enter func183,ntmps183
 go_wp2_with fail
 refine HC.o.mono ?_;rintro e w2 ⟨c,n,cc,rfl,hC,hB2⟩;have HN:=zh (fA hC).1;have hn:n<=8192:=by have:=HN.o;have:=HL.o;omega
 have HX:=zh (xA hC hB2);have HO2:=zh (eX (aJ hB2) HO0.o (fun k hk h=>by exact h));clear hC hB2;go_wp2_with fail
 go_loopw [0,15] (fun o i wr=>∃ (A':qO) (m' cap' k:Nat),k<=n/\m'=m+k/\o=qS A' m' cap'/\i=qI k/\ORg wr base (qS A' m' cap') (rs++(rts r x y C).take k)/\ORg wr w.heap.size (qS c n cc) C/\(∀ j,(qS A' m' cap').ownBlock=some j->¬ (qS c n cc).ownBlock=some j)/\Below base w wr) (fun _ i _=>n-(intOf i).toNat)
 .exact ⟨A,m,cap,0,xC _,rfl,rfl,rfl,by simpa using HO2.o,HX.o.1,fun j h1 h2=>by have:=aGe HO0.o j h1;have:=sL HX.o.1 j h2;omega,HX.o.2.mono hb⟩
 .obtain ⟨A',m',cap',k,hk,hm',rfl,rfl,hO,hC,hd,hB⟩:=hrel;by_cases hlt:k<n
  .have hlt':(k:Int)<(n:Int):=by omega
   obtain ⟨b,off,rfl⟩:=(fA hC).some (by omega);have hat:=(fA hC).at k hlt
   have hC2:=hC.2 (C.getD k z6) (by
    have:k<C.length:=by rw [HN.o];exact hlt
    simp [xB,this])
   have HT:=zh (aJl r x y C k (by rw [HN.o];exact hlt));generalize hG:C.getD k z6=G at *;obtain ⟨g1,g2,g3,g4,g5,g6⟩:=G;have HG:=zh hG;obtain ⟨p0,p1,p2,p3,p4,p5⟩:=hat;obtain ⟨W1,hW1⟩:=eqx (wr.alloc (.cells #[qI g1,qI g2,qI g3,.bool g4,.bool g5,.bool g6] 214));have K1:Blk W1 wr.heap.size #[qI g1,qI g2,qI g3,.bool g4,.bool g5,.bool g6] 214:=by rw [hW1];exact Blk.new _ _ _
   have B1:qY wr W1:=by rw [hW1];exact bal
   have s1:W1.heap.size=wr.heap.size+1:=by rw [hW1];simp
   obtain ⟨W2,hW2⟩:=eqx (((W1.setCell ⟨wr.heap.size,3,none⟩ (.bool r)).setCell ⟨wr.heap.size,4,none⟩ (.bool x)).setCell ⟨wr.heap.size,5,none⟩ (.bool y))
   have K2:Blk W2 wr.heap.size #[qI g1,qI g2,qI g3,.bool r,.bool x,.bool y] 214:=by
    rw [hW2];exact ((K1.set 3 (.bool r)).set 4 (.bool x)).set 5 (.bool y)
   have B2:qY wr W2:=by rw [hW2];exact ((B1.setCell aN _).setCell aN _).setCell aN _
   have s2:W2.heap.size=wr.heap.size+1:=by rw [hW2];simp [s1]
   have BB:qY wr (W2.alloc (.cells #[qI g1,qI g2,qI g3,.bool r,.bool x,.bool y] 214)):=B2.alloc (by rw [s2];omega) _
   have HOW:=zh (show (W2.alloc (.cells #[qI g1,qI g2,qI g3,.bool r,.bool x,.bool y] 214)).ownsRow base 214 6 (qS A' m' cap') m' (dQ (rs++(rts r x y C).take k)) from by
    have:=(eX (aJ BB) hO (fun _ _ h=>h)).1
    rwa [(fA hO).1] at this)
   have HNEWS:=zh (by have:=aJ8 W2 (g1,g2,g3,r,x,y);rw [s2] at this;exact this);have HMM:=zh hm';have HONE:=zh (aMn (g1,g2,g3,r,x,y));have HRS:=zh hO.2;have HLB:=zh (aGe hO);have HGE:=zh (sL hO);have HCW:=zh (eX (aJ BB) hC (fun _ _ h=>h));have HCL:=zh (aGe hC);have HD:=zh hd;have HML:=zh (fA hO).1;have HSZ:=zh (show base<=(W2.alloc (.cells #[qI g1,qI g2,qI g3,.bool r,.bool x,.bool y] 214)).heap.size from by have:=hB.size;simp;omega);have HSY:=zh (show (W2.alloc (.cells #[qI g1,qI g2,qI g3,.bool r,.bool x,.bool y] 214)).heap.size=wr.heap.size+2 from by simp [s2]);have HB3:Zh (Below base w (W2.alloc (.cells #[qI g1,qI g2,qI g3,.bool r,.bool x,.bool y] 214))):=hB.trans (BB.mono (by have:=hB.size;omega));have HG2:=zh hC2;obtain ⟨q1,q2,q3,q4,q5,q6,q7⟩:=K1.six';obtain ⟨u1,u2,u3,u4,u5,u6,u7⟩:=K2.six';have HW1:=zh hW1;have HW2:=zh hW2;clear hW1 hW2 K1 K2 B1 B2 BB hO hC hd hB hC2 hG hm';generalize hW3:W2.alloc (.cells #[qI g1,qI g2,qI g3,.bool r,.bool x,.bool y] 214)=W3 at *;have HW3:=zh hW3;clear hW3;go_wp2_with (first|rw [<- HW1.o]|rw [<- HW2.o]|rw [HW3.o]|(at_builtin;refine wpList_append_own_at _ rfl _ _ 108 rfl base 214 i0 (.agg #[qI 0,qI 0,qI 0,.bool false,.bool false,.bool false]) 6 32 underlying108 hi hz0 hz1 hz2 rfl (by decide) (qS A' m' cap') m' (dQ (rs++(rts r x y C).take k)) rfl HOW.o (qR (wr.heap.size+1) 0) 1 1 (dB (g1,g2,g3,r,x,y)) rfl rfl HNEWS.o HONE.o (by have:=HMM.o;unfold maxLen;omega) (by have:=HMM.o;omega) HSZ.o ?_;intro v' w3 hown3 hgr3 _ hat3;have HP:=zh (xA hown3 (xA hgr3 hat3));clear hown3 hgr3 hat3;obtain ⟨A2,cap2,he⟩:=mY HP.o.1;subst he))
   have t3:=jG HP.o.2.1;refine ⟨⟨A2,m'+1,cap2,k+1,by omega,by have:=HMM.o;omega,rfl,by go_num,?_,?_,?_,?_⟩,by simp [intOf];omega⟩
   .rw [HT.o,<- List.append_assoc];refine aAo (W:=W3) (v:=qS A' m' cap') HRS.o HG2.o ?_;rw [HML.o];exact HP.o.1
   .exact eX t3 HCW.o (fun j hj h=>HD.o j h hj)
   .intro j h1 h2;rcases HP.o.2.2 with h|h
    .exact HD.o j (h ▸ h1) h2
    .rw [h1] at h;injection h with h
     have:=HCL.o j h2;have:=HSY.o;omega
   .exact aG HB3.o t3 (fun j hj=>HGE.o j hj) HSZ.o
  .have HE:=zh (show k=n by omega);have HF:=zh (xA hO hB);clear hO hC hd hB;go_wp2;go_ret;refine ⟨A',m',cap',rfl,by rw [hm',HE.o,HN.o],?_,HF.o.2⟩;have:=HF.o.1
   rwa [xG (by rw [fR,HE.o,HN.o];exact aN)] at this
def pcq (ps:List PMod)(m b:Int):Int:=
 if 0<=m/\m<(ps.length:Int) then (if b=-1 then ((ps.getD m.toNat zP).tz.length:Int) else if 0<=b/\b<((ps.getD m.toNat zP).bl.length:Int) then (((ps.getD m.toNat zP).bl.getD b.toNat []).length:Int) else -1) else -1
theorem dW {w:qw}(h:MSD w a n cap ms)(m b:Int):pcm ms m b=pcq (aD ms) m b:=by
 have hn:=h.s.1;unfold pcm pcq;rw [bR];by_cases c:0<=m/\m<(ms.length:Int)
 .rw [if_pos c,if_pos c,cH];have hd:=h.d m.toNat (by omega);generalize ms.getD m.toNat aK=M at *;have ht:M.tn=M.pm.tz.length:=hd.t.1.symm;have hb:M.bn=M.pm.bl.length:=by simp [Md.pm,hd.b.1]
  unfold pcn;rw [ht,hb];by_cases c1:b=-1
  .rw [if_pos c1,if_pos c1]
  .rw [if_neg c1,if_neg c1];by_cases c2:0<=b/\b<(M.pm.bl.length:Int)
   .rw [if_pos c2,if_pos c2];have hr:=(hd.b.2.2.2.1 b.toNat (by omega)).1;rw [<- hr];congr 1;have:b.toNat<M.bl.length:=by rw [hd.b.1,hb];omega
    simp [Md.pm,xB,this]
   .rw [if_neg c2,if_neg c2]
 .rw [if_neg c,if_neg c]
def gB (L:Lay)(p:Pl)(b s:Int):Int:=if b=-1 then p.text else if s=-1 then p.banks.getD b.toNat 0 else L.slots.getD s.toNat 0
theorem aJy (L:Lay)(P:PB)(b s:Int):gC L P b s=gB L P.1 b s:=rfl
abbrev sOk (L:Lay)(b s:Int):Prop:=if b=-1\/L.slots=[] then s=-1 else 0<=s/\s<(L.slots.length:Int)
theorem sOk.fit (h:sOk L b s):s=-1\/(b≠-1/\0<=s/\s<(L.slots.length:Int)):=by
 unfold sOk at h;split at h
 .exact .inl h
 .rename_i c;exact .inr ⟨fun e=>c (.inl e),h⟩
structure Pkn (ps:List PMod)(L:Lay)(xs:List PB)(m b s:Int):Prop where
 m0:0<=m
 m1:m<(xs.length:Int)
 m2:m<(ps.length:Int)
 p:(xs.getD m.toNat zPB).1=plc ps m.toNat
 bb:b=-1\/(0<=b/\b<((xs.getD m.toNat zPB).1.banks.length:Int))
 w:0<=pcq ps m b/\pcq ps m b<=200
 d:65536<=(plc ps m.toNat).data/\(plc ps m.toNat).data<=100000/\0<=(plc ps m.toNat).size/\(plc ps m.toNat).size<=100000
 t:65536<=L.stack/\L.stack<=100000
 e:65536<=dA L/\dA L<=100000
theorem aM0 (h:Lok ps L):65536<=dA L/\dA L<=100000:=by
 have K:=kI h;obtain ⟨h1,h2⟩:=h;have e:lay ps (L.slots.length:Int) (cfW L) (cfK L)=L:=by unfold lkL at h2;rw [if_pos h1] at h2;exact h2
 obtain ⟨hc,n1,n2,hv,hi⟩:=fY h1;unfold cfo at hc;simp at hc;have a2:=bO hv ps.length aN;have a3:(0:Int)<=((L.slots.length:Int).toNat:Int)*rnd (4*cfW L):=Int.mul_nonneg (by omega) (by have:=aQ (x:=4*cfW L);omega)
 have e2:L.ram=Ra ps ps.length+cfK L+((L.slots.length:Int).toNat:Int)*rnd (4*cfW L):=by
  have:=congrArg Lay.ram e;rw [<- this];rfl
 have rr:=K.rr;unfold dA;by_cases c:L.slots=[]
 .rw [if_pos c];have:wrap64 (65536+L.ram)=65536+L.ram:=by unfold wrap64;omega
  rw [this];omega
 .rw [if_neg c];have hl:0<L.slots.length:=List.length_pos_iff.2 c
  have e3:L.slots.getD 0 0=slt ps (cfW L) (cfK L) 0:=by
   have:=congrArg Lay.slots e
   have e4:L.slots=(List.range (L.slots.length:Int).toNat).map (slt ps (cfW L) (cfK L)):=by
    conv=>lhs;rw [<- this]
    rfl
   rw [e4];simp [xB,hl]
  rw [e3];unfold slt;simp only [Int.natCast_zero,Int.zero_mul];omega
theorem sI {w:qw}{a0:qO}{c0:Nat}{xs:List PB}{a2:qO}{c2:Nat}{ts:List TB}
 (hL:LyT w L a0 c0 xs a2 c2 a5 c5 ts) (hk:Lok ps L) (hp:0<=pcq ps m b):Pkn ps L xs m b s:=by
 have K:=kI hk
 have hm:0<=m/\m<(ps.length:Int):=by
  unfold pcq at hp;split at hp
  .assumption
  .exact absurd hp (by decide)
 have hx:xs.length=ps.length:=by
  have:=congrArg List.length (hL.ps.trans K.pl);simpa using this
 have hpl:(xs.getD m.toNat zPB).1=plc ps m.toNat:=by
  rw [<- K.place m.toNat (by omega),<- hL.ps];simp [xB,show m.toNat<xs.length by omega]
 have hv:=K.v m.toNat (by omega);obtain ⟨_,_,v3,v4,_,_,_,v8⟩:=cA hv;have r1:=bO K.v m.toNat (by omega);have r2:=bO K.v ps.length aN;have r3:=iN hv;have n4:=K.n.2;have n5:(m.toNat:Int)<=4:=by omega
 refine ⟨hm.1,by rw [hx];exact hm.2,hm.2,hpl,?_,⟨hp,?_⟩,?_,?_,aM0 hk⟩
 .rw [hpl];unfold pcq at hp;rw [if_pos hm] at hp;by_cases c:b=-1
  .exact .inl c
  .rw [if_neg c] at hp;right;split at hp
   .rename_i c2;simpa [plc] using c2
   .exact absurd hp (by decide)
 .unfold pcq;rw [if_pos hm];by_cases c:b=-1
  .rw [if_pos c];omega
  .rw [if_neg c];by_cases c2:0<=b/\b<((ps.getD m.toNat zP).bl.length:Int)
   .rw [if_pos c2];have:=v8 b.toNat (by omega);omega
   .rw [if_neg c2];omega
 .have:(plc ps m.toNat).data=65536+Ra ps m.toNat:=rfl;have e2:(plc ps m.toNat).size=dsz (ps.getD m.toNat zP):=rfl;rw [this,e2];omega
 .rw [K.st];have:(ps.length:Int)<=4:=by omega
  omega
def Yn (P:Prop)(w:qw)(e:Ending)(w':qw):Prop:=∃ r:Bool,e=.returned (.bool r)/\(r=true ↔ P)/\qY w w'
theorem pN {w w':qw}(h:P)(hb:qY w w'):Yn P w (.returned (.bool true)) w':=⟨true,rfl,by simp [h],hb⟩
theorem cU {w w':qw}(h:¬ P)(hb:qY w w'):Yn P w (.returned (.bool false)) w':=⟨false,rfl,by simp [h],hb⟩
theorem aPr {Q:Prop}[Decidable Q]{w w':qw}(h:Q ↔ P)(hb:qY w w'):Yn P w (.returned (.bool (decide Q))) w':=⟨_,rfl,by simp [h],hb⟩
theorem mC {w:qw}(h:MSD w a n cap ms)(hp:0<=pcq (aD ms) m b):(0<=m/\m<(n:Int))/\pcn (ms.getD m.toNat aK).tn (ms.getD m.toNat aK).bn (ms.getD m.toNat aK).bl b=pcq (aD ms) m b:=by
 have hn:=h.s.1;rw [<- dW h] at hp ⊢;unfold pcm at hp ⊢;rw [hn] at hp ⊢;by_cases c:0<=m/\m<(n:Int)
 .exact ⟨c,by rw [if_pos c]⟩
 .rw [if_neg c] at hp;exact absurd hp (by decide)
theorem aHy {w:qw}(h:MSD w a n cap ms)(hp:0<=pcq (aD ms) m b)(hM:ms.getD m.toNat aK=M)(X:qw)(hX:qY w X):qC 175 #[.agg (qM M.nm M.ta M.tn M.tc M.ba M.bn M.bc M.da M.dn M.dc M.bss M.ra M.rn M.rc M.ia M.im M.ic M.ea M.en M.ec),qI b] X (fun e w'=>∃ xa xn xc,e=.returned (.tuple #[qS xa xn xc,.bool true])/\(xn:Int)=pcq (aD ms) m b/\qY w w'):=by
 obtain ⟨⟨h0,h1⟩,hq⟩:=mC h hp;have hmt:=h.s.2.2.2.1 m.toNat (by omega);rw [hM] at hmt hq;refine (gQ M.nm M.ta M.tn M.tc M.ba M.bn M.bc M.bl (qS M.da M.dn M.dc) (qS M.ra M.rn M.rc) (qS M.ia M.im M.ic) (qS M.ea M.en M.ec) M.bss b X hmt.t.2.1 (hmt.b.bw hX)).mono fun e w' ⟨xa,xn,xc,ok,he,ho,hx,_,hb⟩=>?_;have ho':ok=true:=by rw [ho,hq];simp;omega
 exact ⟨xa,xn,xc,by rw [he,ho'],by rw [hx ho',hq],hX.trans (hb.mono hX.size)⟩
theorem yK {w:qw}(h:MSD w a n cap ms)(hp:0<=pcq (aD ms) m b)(hM:ms.getD m.toNat aK=M)(X:qw)(hX:qY w X):qC 115 #[.agg (qM M.nm M.ta M.tn M.tc M.ba M.bn M.bc M.da M.dn M.dc M.bss M.ra M.rn M.rc M.ia M.im M.ic M.ea M.en M.ec),qI b] X (fun e w'=>∃ xa xn xc,e=.returned (.tuple #[qS xa xn xc,.bool true])/\(xn:Int)=pcq (aD ms) m b/\qY w w'):=by
 obtain ⟨⟨h0,h1⟩,hq⟩:=mC h hp;have hmt:=h.s.2.2.2.1 m.toNat (by omega);rw [hM] at hmt hq;refine (gT M.nm M.ta M.tn M.tc M.ba M.bn M.bc M.bl (qS M.da M.dn M.dc) (qS M.ra M.rn M.rc) (qS M.ia M.im M.ic) (qS M.ea M.en M.ec) M.bss b X hmt.t.2.1 (hmt.b.bw hX)).mono fun e w' ⟨xa,xn,xc,ok,he,ho,hx,_,hb⟩=>?_;have ho':ok=true:=by rw [ho,hq];simp;omega
 exact ⟨xa,xn,xc,by rw [he,ho'],by rw [hx ho',hq],hX.trans (hb.mono hX.size)⟩
theorem iY (a:qO)(n c:Nat)(xs:List SlT)(m b:Int)(w:qw)(h:QS bS zSl w a n c xs):
 qC 176 #[qS a n c,qI m,qI b] w (qB w (qI (hld xs m b))):=by
 have hl:=h.1;have hmx:=h.2.1;unfold maxLen at hmx;obtain ⟨r,hr⟩:=eqx (hld xs m b);rw [<- hr];have HR:=zh hr;clear hr;go_enter func176,ntmps176
 go_wp2;go_loopw [11] (fun i wr=>∃ k:Nat,k<=n/\i=qI k/\Hid (r=fL m b k (xs.drop k))/\qY w wr) (qf n)
 .exact ⟨0,xC _,rfl,HR,brf⟩
 .obtain ⟨k,hk,rfl,HI,hB⟩:=hrel;clear HR;by_cases hlt:k<n
  .have hlt':(k:Int)<(n:Int):=by omega
   obtain ⟨g,f,rfl,q0,q1,q2,q3⟩:=(h.bw hB).at k hlt _ _ _ _ rfl;have HH:=zh (fun hu=>aC8 (m:=m) (b:=b) (show k<xs.length by omega) hu);have HM:=zh (fun hu=>yQ (m:=m) (b:=b) (show k<xs.length by omega) hu);generalize xs.getD k zSl=x at *;obtain ⟨x0,x1,x2,x3⟩:=x;dsimp only at q0 q1 q2 q3;have HB:=zh (hB.alloc hB.size (.cells #[.bool x0,qI x1,qI x2,qI x3] 142));clear hB h;by_cases hu:usd m b (x0,x1,x2,x3)
   .have e:=zh (show r=k from by rw [HI.out];exact HH.o hu);obtain ⟨h0,h1,h2⟩:=hu;dsimp only at h0 h1 h2;subst h0 h1 h2;clear HH HM;go_wp2;go_ret;exact ⟨aH e.o.symm,HB.o⟩
   .have HN:=zh (show r=fL m b (k+1) (xs.drop (k+1)) from by rw [HI.out];exact HM.o hu);have hu':¬ (x0=true/\x1=m/\x2=b):=hu;clear HH HM HI hu;cases x0 with
    | false=>
      clear hu';go_wp2
      go_roundw
      .exact ⟨k+1,by omega,by go_num,HN,HB.o⟩
      .simp [qf,intOf];omega
    | true=>
      by_cases c1:x1=m
      .have c2:(x2==b)=false:=by simp;exact fun e=>hu' ⟨rfl,c1,e⟩
       have c1':(x1==m)=true:=by simp [c1]
       clear hu' c1;go_wp2
       go_roundw
       .exact ⟨k+1,by omega,by go_num,HN,HB.o⟩
       .simp [qf,intOf];omega
      .have c1':(x1==m)=false:=by simp [c1]
       clear hu' c1;go_wp2
       go_roundw
       .exact ⟨k+1,by omega,by go_num,HN,HB.o⟩
       .simp [qf,intOf];omega
  .have e:=zh (show r=-1 from by rw [HI.out,List.drop_eq_nil_of_le (by omega)];rfl);have HB:=zh hB;clear hB;go_wp2;go_ret;exact ⟨aH e.o.symm,HB.o⟩
theorem pG (a:qO)(n c:Nat)(xs:List SlT)(m b:Int)(w:qw)(h:QS bS zSl w a n c xs):
 qC 148 #[qS a n c,qI m,qI b] w (qB w (qI (hld xs m b))):=by
 have hl:=h.1;have hmx:=h.2.1;unfold maxLen at hmx;obtain ⟨r,hr⟩:=eqx (hld xs m b);rw [<- hr];have HR:=zh hr;clear hr;go_enter func148,ntmps148
 go_wp2;go_loopw [7] (fun i wr=>∃ k:Nat,k<=n/\i=qI k/\Hid (r=fL m b k (xs.drop k))/\qY w wr) (qf n)
 .exact ⟨0,xC _,rfl,HR,brf⟩
 .obtain ⟨k,hk,rfl,HI,hB⟩:=hrel;clear HR;by_cases hlt:k<n
  .have hlt':(k:Int)<(n:Int):=by omega
   obtain ⟨g,f,rfl,q0,q1,q2,q3⟩:=(h.bw hB).at k hlt _ _ _ _ rfl;have HH:=zh (fun hu=>aC8 (m:=m) (b:=b) (show k<xs.length by omega) hu);have HM:=zh (fun hu=>yQ (m:=m) (b:=b) (show k<xs.length by omega) hu);generalize xs.getD k zSl=x at *;obtain ⟨x0,x1,x2,x3⟩:=x;dsimp only at q0 q1 q2 q3;have HB:=zh hB;clear hB h q3;by_cases hu:usd m b (x0,x1,x2,x3)
   .have e:=zh (show r=k from by rw [HI.out];exact HH.o hu);obtain ⟨h0,h1,h2⟩:=hu;dsimp only at h0 h1 h2;subst h0 h1 h2;clear HH HM;go_wp2;go_ret;exact ⟨aH e.o.symm,HB.o⟩
   .have HN:=zh (show r=fL m b (k+1) (xs.drop (k+1)) from by rw [HI.out];exact HM.o hu);have hu':¬ (x0=true/\x1=m/\x2=b):=hu;clear HH HM HI hu;cases x0 with
    | false=>
      clear hu';go_wp2
      go_roundw
      .exact ⟨k+1,by omega,by go_num,HN,HB.o⟩
      .simp [qf,intOf];omega
    | true=>
      by_cases c1:x1=m
      .have c2:(x2==b)=false:=by simp;exact fun e=>hu' ⟨rfl,c1,e⟩
       have c1':(x1==m)=true:=by simp [c1]
       clear hu' c1;go_wp2
       go_roundw
       .exact ⟨k+1,by omega,by go_num,HN,HB.o⟩
       .simp [qf,intOf];omega
      .have c1':(x1==m)=false:=by simp [c1]
       clear hu' c1;go_wp2
       go_roundw
       .exact ⟨k+1,by omega,by go_num,HN,HB.o⟩
       .simp [qf,intOf];omega
  .have e:=zh (show r=-1 from by rw [HI.out,List.drop_eq_nil_of_le (by omega)];rfl);have HB:=zh hB;clear hB;go_wp2;go_ret;exact ⟨aH e.o.symm,HB.o⟩
