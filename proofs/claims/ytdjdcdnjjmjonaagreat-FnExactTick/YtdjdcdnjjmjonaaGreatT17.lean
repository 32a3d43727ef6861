import Derived.Deep.MidRow
import Derived.ChangeOld
import Derived.OpenShut
import Derived.ProofKit
import Derived.ShutString
import Derived.Test.YtdjdcdnjjmjonaaGreatT10
import Derived.Test.YtdjdcdnjjmjonaaGreatT15
set_option linter.all false
set_option maxHeartbeats 16000000
namespace Go.Proofs.YtdjdcdnjjmjonaaGreat
open Go.RowKit
open Go.Proofs.Tryz
set_option maxRecDepth 100000
variable {C:Cn}{G R b base cap g i k n rb:Nat}{L:Lay}{S:Nat->Prop}{W X w:World}{a:Act}{cd pc s:Int}{cs:Array Value}{d:Option Tmp}{e:Ending}{p:String}{ps:List PMod}{t0 t1 t2 u0 u1 v v0 v1 v2 v3 v4 v5 v6 v7:Value}{x1 x2 x3 zs:List Int}{xs:List FrT}
def jR {t:TypeId}(h:OI W base v zs)(j:Blk W G cs t)(l:t≠3):v.ownBlock≠some G:=by
 obtain⟨p,⟨a,_⟩|⟨g,b,d,rfl,i,k,_⟩⟩:=h.1
 .rw[a];intro e;cases e
 .intro e;have f:some g=some G:=e;injection f with f
  subst f;unfold Blk at j
  grind
def kS (W:World)(R:Nat)(x y:Value):World:=(W.setCell ⟨R,0,none⟩ x).setCell ⟨R,1,none⟩ y
def gP (W:World)(R:Nat)(x y z:Value):World:=((W.setCell ⟨R,0,none⟩ x).setCell ⟨R,1,none⟩ y).setCell ⟨R,2,none⟩ z
def OI.set (h:OI w base (.slice (some ⟨rb,0,none⟩) n cap) zs)(i)(hi:i<n)(z)(hz:wfi z):OI (w.setCell ⟨rb,i,none⟩$ .int .i64 z) base (.slice (some ⟨rb,0,none⟩) n cap) (zs.set i z):=by
 obtain⟨x,⟨d,_⟩|⟨g,q,b,l,j,k,s,e,t,f⟩⟩:=h.1
 .cases d
 .injection l with a y p
  injection a with a
  injection a with a
  subst a p;refine⟨⟨Jb,.inr ⟨rb,cap,b.setIfInBounds i$ .int .i64 z,by grind,j,Blk.set (w:=w) k i$ .int .i64 z,by grind,e,by grind,?_⟩⟩,λu hu=>?_⟩
  .rw[List.length_set,Array.toList_setIfInBounds,List.map_set,<-f,List.take_set]
  .rcases List.mem_or_eq_of_mem_set hu with hu|rfl
   .exact h.2 u hu
   .exact hz
def aNc {c:Value}(B:OI W base c zs)(l:cB W base v1 v2 v3 x1 x2 x3)(x:Blk W R #[u0,u1] 38)(u:Blk W (R+1) #[t0,t1,t2] 39)
 (q:Turn S w W) (H:w.heap.size<=R)
 (F:X=gP (kS W R (.int .i64 pc) c) (R+1) v1 v2 v3\/X=kS (gP W (R+1) v1 v2 v3) R (.int .i64 pc) c):
 (OI X base c zs/\cB X base v1 v2 v3 x1 x2 x3/\Turn S w X) /\
   X.cell? ⟨R,0,none⟩=some (.int .i64 pc)/\X.cell? ⟨R,1,none⟩=some c/\X.cell? ⟨R+1,0,none⟩=some v1/\X.cell? ⟨R+1,1,none⟩=some v2/\X.cell? ⟨R+1,2,none⟩=some v3:=by
 have A:Turn (λj=>j=R\/j=R+1) W X/\Blk X R #[.int .i64 pc,c] 38/\Blk X (R+1) #[v1,v2,v3] 39:=by
  rcases F with rfl|rfl
  .refine⟨(((aM _ _ _ _).trans$ aM _ _ _ _).mono λk e=>Or.inl e).trans$ (((aM _ _ _ _).trans$ aM _ _ _ _).trans$ aM _ _ _ _).mono λk e=>Or.inr e,?_,?_⟩
   .have f:=((((x.set 0$ .int .i64 pc).set 1 c).other ⟨R+1,0,none⟩ v1 (by grind)).other ⟨R+1,1,none⟩ v2 (by grind)).other ⟨R+1,2,none⟩ v3 (by grind);simpa[kS,gP]using f
   .have f:=((((u.other ⟨R,0,none⟩ (.int .i64 pc) (by grind)).other ⟨R,1,none⟩ c (by grind)).set 0 v1).set 1 v2).set 2 v3;simpa[kS,gP]using f
  .refine⟨((((aM _ _ _ _).trans$ aM _ _ _ _).trans$ aM _ _ _ _).mono λk e=>Or.inr e).trans$ ((aM _ _ _ _).trans$ aM _ _ _ _).mono λk e=>Or.inl e,?_,?_⟩
   .have f:=((((x.other ⟨R+1,0,none⟩ v1 (by grind)).other ⟨R+1,1,none⟩ v2 (by grind)).other ⟨R+1,2,none⟩ v3 (by grind)).set 0$ .int .i64 pc).set 1 c;simpa[kS,gP]using f
   .have f:=((((u.set 0 v1).set 1 v2).set 2 v3).other ⟨R,0,none⟩ (.int .i64 pc) (by grind)).other ⟨R,1,none⟩ c (by grind);simpa[kS,gP]using f
 obtain⟨T,f,a⟩:=A
 have y:∀{v:Value}{D:List Int},OB W base v D->∀k,v.ownBlock=some k->¬(k=R\/k=R+1):=λh k t e=>by
  rcases e with e|e
  .exact pZ h x Ja (by grind)
  .exact pZ h u Ja (by grind)
 have E:∀k,c.ownBlock=some k->¬(k=R\/k=R+1):=λk t e=>by
  rcases e with e|e
  .exact jR B x Ja (by grind)
  .exact jR B u Ja (by grind)
 refine⟨⟨aX T B E,⟨aT T l.1$ y l.1,aT T l.2.1$ y l.2.1,aT T l.2.2.1$ y l.2.2.1,l.2.2.2⟩,⟨T.os.trans q.os,T.tape.trans q.tape,T.output.trans q.output,Nat.le_trans q.size T.size,λk t hs=>(T.block k (Nat.lt_of_lt_of_le t q.size) (λe=>by grind)).trans$ q.block k t hs⟩⟩,?_,?_,?_,?_,?_⟩
 .rw[f.cell];rfl
 .rw[f.cell];rfl
 .rw[a.cell];rfl
 .rw[a.cell];rfl
 .rw[a.cell];rfl
def aSz {w':World}(h:Turn S w w'):Turn S w w'.drew:=⟨h.os,h.tape,h.output,h.size,h.block⟩
def fY {c:Value}(l:OI W base c zs)(j:cB W base v1 v2 v3 x1 x2 x3)(u:Blk W R #[u0,u1] 38)(t:Blk W (R+1) #[t0,t1,t2] 39)
 (f:Turn S w W) (q:w.heap.size<=R)
 (x:X=gP (kS W R (.int .i64 pc) c) (R+1) v1 v2 v3\/X=kS (gP W (R+1) v1 v2 v3) R (.int .i64 pc) c):
 (OI X.drew base c zs/\cB X.drew base v1 v2 v3 x1 x2 x3/\Turn S w X.drew) /\
   X.drew.cell? ⟨R,0,none⟩=some (.int .i64 pc)/\X.drew.cell? ⟨R,1,none⟩=some c/\X.drew.cell? ⟨R+1,0,none⟩=some v1/\X.drew.cell? ⟨R+1,1,none⟩=some v2/\X.drew.cell? ⟨R+1,2,none⟩=some v3:=by
 let⟨⟨a,b,d⟩,e⟩:=aNc l j u t f q x;exact⟨⟨a,b,aSz d⟩,e⟩
def OI.blk (h:OI w base (.slice (some ⟨rb,0,none⟩) n cap) zs):∃f,Blk w rb f 3:=by
 obtain⟨k,⟨b,_⟩|⟨g,i,f,e,j,d,_⟩⟩:=h.1
 .cases b
 .injection e with a l p
  injection a with a
  injection a with a
  subst a;exact⟨f,d⟩
abbrev zCo:Array Value:=#[qI 0,qS none 0 0]
abbrev zMe:Array Value:=qV none 0 0 none 0 0 none 0 0
def MmP (w:qw)(base:Nat)(pc:Int)(c:Value)(r:Res)(e:Ending)(W:qw):Prop:=
 ∃a1 m1 d1 a2 m2 d2 a3 m3 d3,e=.returned (.tuple #[.agg #[qI pc,c],.agg$ qV a1 m1 d1 a2 m2 d2 a3 m3 d3,qI$ if r.did=0 then 0 else r.num])/\OI W base c r.rg/\cB W base (qS a1 m1 d1) (qS a2 m2 d2) (qS a3 m3 d3) r.x1 r.x2 r.x3/\Turn (λj=>c.ownBlock=some j) w W
def aSu {b:Bool}(h:e=.returned (.bool b)):∃A,A=b/\e=.returned (.bool A):=⟨b,rfl,h⟩
def aT5 {R:Int×Int}(h:e=.returned (.tuple #[qI R.1,qI R.2])):∃v f,R=(v,f)/\e=.returned (.tuple #[qI v,qI f]):=by grind
def sMm (k:Nat)(hk:k<6)(C op d a i pc rb cp rg p R S ra c1 c2 c3 rc base w)(an:op=(k:Int)+14)(ho:OI w base (qS (qP rb) 8 cp) rg)(hm:cB w base (qS p C.n1 c1) (qS R C.n2 c2) (qS S C.n3 c3) C.x1 C.x2 C.x3)(bd:RS w ra C.rn rc C.rs)(hw:∀z∈rg,0<=z/\z<=4294967295)(hn:C.n1+C.n2+C.n3<=1048576)(hb:base<=w.heap.size)(d0:0<=d)(d1:d<=7)(aw:0<=a)(ax:a<=7)(i0:0<=i)(i1:i<=65535):
 qC 129 #[.agg #[qI pc,qS (qP rb) 8 cp],.agg$ qV p C.n1 c1 R C.n2 c2 S C.n3 c3,qS ra C.rn rc,.agg$ qW op d a i] w (MmP w base pc (qS (qP rb) 8 cp)$ opz C op d a i pc rg):=by
 obtain⟨W,hW⟩:=aN$ ((((w.alloc$ .cells #[qI pc,qS (qP rb) 8 cp] 38).alloc$ .cells (qV p C.n1 c1 R C.n2 c2 S C.n3 c3) 39).alloc$ .cells (qW op d a i) 186).alloc$ .cells zCo 38).alloc$ .cells zMe 39;have ab:qY w W:=by rw[hW];exact(((bal.alloc Jb _).alloc Jc _).alloc Jc _).alloc Jc _
 have k0:=((((Blk.new w #[qI pc,qS (qP rb) 8 cp] 38).alloc$ .cells (qV p C.n1 c1 R C.n2 c2 S C.n3 c3) 39).alloc$ .cells (qW op d a i) 186).alloc$ .cells zCo 38).alloc$ .cells zMe 39;have k1:=(((Blk.new (w.alloc$ .cells #[qI pc,qS (qP rb) 8 cp] 38) (qV p C.n1 c1 R C.n2 c2 S C.n3 c3) 39).alloc$ .cells (qW op d a i) 186).alloc$ .cells zCo 38).alloc$ .cells zMe 39;have k2:=((Blk.new ((w.alloc$ .cells #[qI pc,qS (qP rb) 8 cp] 38).alloc$ .cells (qV p C.n1 c1 R C.n2 c2 S C.n3 c3) 39) (qW op d a i) 186).alloc$ .cells zCo 38).alloc$ .cells zMe 39;have k3:=(Blk.new (((w.alloc$ .cells #[qI pc,qS (qP rb) 8 cp] 38).alloc$ .cells (qV p C.n1 c1 R C.n2 c2 S C.n3 c3) 39).alloc$ .cells (qW op d a i) 186) zCo 38).alloc$ .cells zMe 39;have k4:=Blk.new ((((w.alloc$ .cells #[qI pc,qS (qP rb) 8 cp] 38).alloc$ .cells (qV p C.n1 c1 R C.n2 c2 S C.n3 c3) 39).alloc$ .cells (qW op d a i) 186).alloc$ .cells zCo 38) zMe 39;simp only[xF]at k1 k2 k3 k4;rw[<-hW]at k0 k1 k2 k3 k4;have O0:=ho.bw ab;have M0:=bD hm ab;have R0:=bd.bw ab;have:=ho.is.1;have hg:∀j:Int,0<=j->j<=7->0<=rg.getD j.toNat 0/\rg.getD j.toNat 0<=4294967295:=λj h0 h7=>hw _ (by rw[xB,xN$ show j.toNat<rg.length from J];exact List.getElem_mem _);obtain⟨bp,bq⟩:=hg a aw ax;obtain⟨au,av⟩:=hg d d0 d1;have ca:=O0.is.at a.toNat J;have cd:=O0.is.at d.toNat J;simp only[Nat.zero_add]at ca cd;obtain⟨bn,bo⟩:=lF i i0 i1;obtain⟨r,E⟩:=aN$ opz C op d a i pc rg;rw[<-E];have HR:=zh E;have ag:=zh$ show(rg.getD a.toNat 0+eA i)%4294967296=atz rg a i from rfl;have b0:=zh λw=>lW i w i0 i1;have u0:0<=atz rg a i/\atz rg a i<=4294967295:=by unfold atz m32;omega
 obtain⟨z,hz⟩:=aN$ atz rg a i;obtain⟨yd,aj⟩:=aN$ rg.getD d.toNat 0;have HL:Zh (∀s,ldz C pc rg d a i s=if C.al z s 1=true then if (C.rd z s).2=0 then C.go 0 0 (m32$ pc+4) (rg.set d.toNat (C.rd z s).1) else C.go 5 (C.rd z s).2 pc rg else C.go 5 5 pc rg):=λs=>by rw[hz];rfl
 have HS:Zh (∀s,stz C pc rg d a i s=if C.al z s 2=true then if (C.wr z s yd).2.2.2=0 then ⟨0,0,m32$ pc+4,rg,(C.wr z s yd).1,(C.wr z s yd).2.1,(C.wr z s yd).2.2.1⟩ else ⟨5,(C.wr z s yd).2.2.2,pc,rg,(C.wr z s yd).1,(C.wr z s yd).2.1,(C.wr z s yd).2.2.1⟩ else C.go 5 5 pc rg):=λs=>by rw[hz,aj];rfl
 rw[<-hz]at ag u0;rw[<-aj]at cd au av;generalize rg.getD a.toNat 0=y at *;generalize eA i=x at *;have b3:=zh (show IntKind.i64.wrap (y+x)=y+x by rw[IntKind.wrap_i64];omega);have ap:=zh λw=>dR (y+x) w ⟨J,J⟩;rw[ag.o]at ap;obtain⟨u0,u1⟩:=u0;have b8:=zh λs j w h=>pS ra C.rn rc C.rs z s j w h ⟨J,J⟩;have bh:=zh λs w V U=>sRd p R S C.n1 c1 C.n2 c2 C.n3 c3 C.x1 C.x2 z s w V U u0 u1;have ai:=zh λs w V U Z=>sWr p R S C.n1 c1 C.n2 c2 C.n3 c3 C.x1 C.x2 C.x3 z s yd w V U Z hn ⟨au,av⟩ u0 u1;have:a<8:=J
 have:d<8:=J
 have af:=zh λs=>vR C.n1 C.n2 C.n3 C.x1 C.x2 z s hm.1.2 hm.2.1.2;clear E hz aj hg ag;rcases(show k=0\/k=1\/k=2\/k=3\/k=4\/k=5 from J)with rfl|rfl|rfl|rfl|rfl|rfl
 all_goals
  simp at an;subst an;have be:=k0.lt;have bi:=k1.lt;have bf:=k2.lt;have bj:=k3.lt;have az:=k4.lt;obtain⟨e1,e2,e3⟩:=k0.two';obtain⟨f1,f2,f3,f4⟩:=k1.three;obtain⟨j1,j2,j3,j4,j5⟩:=k2.four';go_enter func129,ntmps129
  go_wp2_with fail
  rw[<-hW];clear hW
  go_region_held3 (λw'=>w'.cell? (qR w.heap.size 1)=some (qS (qP rb) 8 cp)/\w'.cell? (qR (w.heap.size+1+1) 2)=some (qI a)/\w'.cell? (qR (w.heap.size+1+1) 3)=some (qI i)/\w'.cell? (qR rb a.toNat)=some (qI y)) (go_keep)
   (first
     | (go_at_call 132;refine(b0.o _).mono ?_;rintro e w1 ⟨rfl,rfl⟩)
     | (go_at_call 116;rw[b3.o];refine(ap.o _).mono ?_;rintro e w1 ⟨rfl,rfl⟩))
  all_goals
   have KX:=Blk.new W (qT 1 2 4) 3;go_wp2_with fail
   have hV:qY W (W.alloc$ .cells (qT 1 2 4) 3).drew:=bal.drew;apply(b8.o _ _ _ (by exact R0.bw hV)).mono;rintro e w1 ⟨he,aq⟩;obtain⟨AL,ar,rfl⟩:=aSu he;have b1:=hV.trans$ aq.mono hV.size;have H:=k0.bw b1;have K:=k1.bw b1;have r2:=k2.bw b1;have D:=k3.bw b1;have B:=k4.bw b1;have A:=bD M0 b1;have I:=O0.bw b1;have F:Turn (λj=>(qS (qP rb) 8 cp).ownBlock=some j) w w1:=aI$ ab.trans$ b1.mono ab.size;have N:=(b1.cell$ xD W _ cd).trans cd;clear aq hV b1 k0 k1 k2 k3 k4 M0 O0 ab e1 e2 e3 f1 f2 f3 f4 j1 j2 j3 j4 j5 ca KX R0 cd be bi bf bj az;have E:=HR.o;simp only[opz,Int.reduceEq,reduceIte]at E;first|rw[HL.o]at E|rw[HS.o]at E
   unfold Cy.al at E;rw[<-ar]at E;clear ar HR HL HS he;cases AL
   .obtain rfl:r=C.go 5 5 pc rg:=E;obtain⟨b,a0,a1,a2,a3,a4⟩:=fY (pc:=pc) I A D B F J$ Or.inl rfl;obtain⟨g,a5,a6,a7,a8,a9⟩:=fY (pc:=pc) I A D B F J$ Or.inr rfl;simp only[kS,gP]at b a0 a1 a2 a3 a4 g a5 a6 a7 a8 a9;have P:=zh b;have M:=zh g;obtain⟨t1,t2,t3⟩:=H.two';obtain⟨s1,s2,s3,s4⟩:=K.three;obtain⟨z1,z2,z3⟩:=D.two';obtain⟨z4,z5,z6,z7⟩:=B.three;clear b g;go_wp2
    go_region
    all_goals
     go_wp2;exact bodyPost_ret (v:=.tuple #[.agg #[qI pc,qS (qP rb) 8 cp],.agg$ qV p C.n1 c1 R C.n2 c2 S C.n3 c3,qI 5]) (by first|(simp[results,results129,go_sem,a0,a1,a2,a3,a4];done)|(simp[results,results129,go_sem,a5,a6,a7,a8,a9];done)) rfl ⟨_,_,_,_,_,_,_,_,_,rfl,by first|exact P.o.1|exact M.o.1,by first|exact P.o.2.1|exact M.o.2.1,by first|exact P.o.2.2|exact M.o.2.2⟩
   .have HR:=zh E;clear E;obtain⟨t1,t2,t3⟩:=H.two';obtain⟨s1,s2,s3,s4⟩:=K.three;obtain⟨l1,l2,l3,l4,l5⟩:=r2.four';go_wp2_with fail
    first
    | (go_at_call 126
       apply(bh.o _ _ (by exact A.1.bs) (by exact A.2.1.bs)).mono;rintro e O ⟨he,l⟩;obtain⟨v,f,hR,rfl⟩:=aT5 he;have E:=HR.o;unfold Cy.rd at E;rw[hR]at E;dsimp only at E;have hv:0<=v/\v<=4294967295:=by first|(have q:=af.o 1;rw[hR]at q;exact q)|(have q:=af.o 2;rw[hR]at q;exact q)|(have q:=af.o 4;rw[hR]at q;exact q)
       replace H:=H.bw l;replace K:=K.bw l;replace r2:=r2.bw l;replace D:=D.bw l;replace B:=B.bw l;replace A:=bD A l;replace I:=I.bw l;replace F:=F.trans$ aI l;replace N:=(l.cell$ xD w1 _ N).trans N;clear l s1 s2 s3 s4 t1 t2 t3 l1 l2 l3 l4 l5 HR he hR;by_cases hq:f=0
       .subst hq;obtain rfl:r=C.go 0 0 (m32$ pc+4) (rg.set d.toNat v):=E;obtain⟨bm,kc⟩:=I.blk;have:=kc.frozen d.toNat;obtain⟨v0,v1⟩:=hv;replace I:=I.set d.toNat J v ⟨J,J⟩;have Y:Turn (λj=>j=rb) O (O.setCell (qR rb d.toNat)$ qI v):=aM _ _ _ _;replace F:=F.trans (Y.mono (λj e=>by have e':j=rb:=e;show some rb=some j;rw[e']));have nb:∀{u:Value}{ys:qi},OB O base u ys->∀k,u.ownBlock=some k->¬(k=rb):=λh k hk e=>pZ h kc Ja (by rw[hk,e]);replace A:cB (O.setCell (qR rb d.toNat)$ qI v) base (qS p C.n1 c1) (qS R C.n2 c2) (qS S C.n3 c3) C.x1 C.x2 C.x3:=⟨aT Y A.1$ nb A.1,aT Y A.2.1$ nb A.2.1,aT Y A.2.2.1$ nb A.2.2.1,A.2.2.2⟩
        have nr:∀{G:Nat}{u:Array Value}{t:TypeId},Blk O G u t->t≠3->G≠rb:=λh ht e=>by
         subst e;unfold Blk at h kc;rw[kc]at h;simp at h;exact ht h.2.symm
        have b6:=nr H Ja;have b4:=nr K Ja;have:=nr r2 Ja;have bc:=nr D Ja;have bb:=nr B Ja;obtain⟨t1,t2,t3⟩:=H.two';obtain⟨l1,l2,l3,l4,l5⟩:=r2.four';replace H:=H.other (qR rb d.toNat) (qI v) b6;replace K:=K.other (qR rb d.toNat) (qI v) b4;replace D:=D.other (qR rb d.toNat) (qI v) bc;replace B:=B.other (qR rb d.toNat) (qI v) bb;clear Y kc nb nr;obtain⟨b,a0,a1,a2,a3,a4⟩:=fY (pc:=pc) I A D B F J$ Or.inl rfl;obtain⟨g,a5,a6,a7,a8,a9⟩:=fY (pc:=pc) I A D B F J$ Or.inr rfl;simp only[kS,gP]at b a0 a1 a2 a3 a4 g a5 a6 a7 a8 a9;have P:=zh b;have M:=zh g;obtain⟨t1,t2,t3⟩:=H.two';obtain⟨s1,s2,s3,s4⟩:=K.three;obtain⟨z1,z2,z3⟩:=D.two';obtain⟨z4,z5,z6,z7⟩:=B.three;clear b g;go_wp2
        go_region
        all_goals
         go_wp2;exact bodyPost_ret (v:=.tuple #[.agg #[qI pc,qS (qP rb) 8 cp],.agg$ qV p C.n1 c1 R C.n2 c2 S C.n3 c3,qI 0]) (by first|(simp[results,results129,go_sem,a0,a1,a2,a3,a4];done)|(simp[results,results129,go_sem,a5,a6,a7,a8,a9];done)) rfl ⟨_,_,_,_,_,_,_,_,_,rfl,by first|exact P.o.1|exact M.o.1,by first|exact P.o.2.1|exact M.o.2.1,by first|exact P.o.2.2|exact M.o.2.2⟩
       .have bl:(f==0)=false:=by simpa using hq
        obtain rfl:r=C.go 5 f pc rg:=by simp[E,hq]
        clear hq E;obtain⟨b,a0,a1,a2,a3,a4⟩:=fY (pc:=pc) I A D B F J$ Or.inl rfl;obtain⟨g,a5,a6,a7,a8,a9⟩:=fY (pc:=pc) I A D B F J$ Or.inr rfl;simp only[kS,gP]at b a0 a1 a2 a3 a4 g a5 a6 a7 a8 a9;have P:=zh b;have M:=zh g;obtain⟨t1,t2,t3⟩:=H.two';obtain⟨s1,s2,s3,s4⟩:=K.three;obtain⟨z1,z2,z3⟩:=D.two';obtain⟨z4,z5,z6,z7⟩:=B.three;clear b g;go_wp2
        go_region
        all_goals
         go_wp2;exact bodyPost_ret (v:=.tuple #[.agg #[qI pc,qS (qP rb) 8 cp],.agg$ qV p C.n1 c1 R C.n2 c2 S C.n3 c3,qI f]) (by first|(simp[results,results129,go_sem,a0,a1,a2,a3,a4];done)|(simp[results,results129,go_sem,a5,a6,a7,a8,a9];done)) rfl ⟨_,_,_,_,_,_,_,_,_,rfl,by first|exact P.o.1|exact M.o.1,by first|exact P.o.2.1|exact M.o.2.1,by first|exact P.o.2.2|exact M.o.2.2⟩
      )
    | (have E:=HR.o
       first
       | (obtain⟨Q,hQ⟩:=aN$ C.wr z 1 yd;rw[<-hQ]at E;have HW:=ai.o 1;unfold Cy.wr at hQ;rw[<-hQ]at HW)
       | (obtain⟨Q,hQ⟩:=aN$ C.wr z 2 yd;rw[<-hQ]at E;have HW:=ai.o 2;unfold Cy.wr at hQ;rw[<-hQ]at HW)
       | (obtain⟨Q,hQ⟩:=aN$ C.wr z 4 yd;rw[<-hQ]at E;have HW:=ai.o 4;unfold Cy.wr at hQ;rw[<-hQ]at HW)
       obtain⟨y1,y2,y3,f⟩:=Q;dsimp only at E;replace HW:=zh HW;have HX:Zh ((if r.did=0 then 0 else r.num)=f/\r.rg=rg/\r.x1=y1/\r.x2=y2/\r.x3=y3):=by by_cases hq:f=0<;>simp[E,hq,Zh]
       clear E HR hQ;have:=H.lt;have:=K.lt;have:=r2.lt;have:=B.lt;have ba:=xD w1 _ N;dsimp only at ba;have ak:w.heap.size≠w1.heap.size:=J
       have b2:w.heap.size+1≠w1.heap.size:=J
       have b9:w.heap.size+1+1≠w1.heap.size:=J
       have am:w.heap.size+1+1+1≠w1.heap.size:=J
       have ao:w.heap.size+1+1+1+1≠w1.heap.size:=J
       have b5:rb≠w1.heap.size:=J
       have:=ak.symm;have:=b2.symm;have:=b9.symm;have:=am.symm;have:=ao.symm;have:=b5.symm;have hA:qY w1 (w1.alloc$ .cells zMe 39):=bal;have kN:=Blk.new w1 zMe 39;have N1:=(A.1.mono$ xC _).bw hA;have N2:=(A.2.1.mono$ xC _).bw hA;have N3:=(A.2.2.1.mono$ xC _).bw hA
       go_region_held3 (λw'=>w'.cell? (qR w.heap.size 1)=some (qS (qP rb) 8 cp)/\w'.cell? (qR (w.heap.size+1) 0)=some (qS p C.n1 c1)/\w'.cell? (qR (w.heap.size+1) 1)=some (qS R C.n2 c2)/\w'.cell? (qR (w.heap.size+1) 2)=some (qS S C.n3 c3)/\w'.cell? (qR (w.heap.size+1+1) 1)=some (qI d)/\w'.cell? (qR rb d.toNat)=some (qI yd)) (go_keep)
        (first
          | (go_at_call 173;refine(HW.o _ (by exact A.1.mono$ xC _) (by exact A.2.1.mono$ xC _) (by exact A.2.2.1.mono$ xC _)).mono ?_;rintro e O ⟨e1,X,V,e2,m2,U,e3,m3,Z,rfl,MW,l⟩;(try replace l:=aW l);have bk:=True.intro;have ac:cB O w1.heap.size (qS e1 X V) (qS e2 m2 U) (qS e3 m3 Z) y1 y2 y3:=MW;obtain⟨t1,t2,t3⟩:=(H.bw l).two';obtain⟨s1,s2,s3,s4⟩:=(K.bw l).three;obtain⟨l1,l2,l3,l4,l5⟩:=(r2.bw l).four';have ad:=(l.cell$ xD w1 _ N).trans N;have b7:=(H.bw l).lt;have bg:=(K.bw l).lt;have ay:=(r2.bw l).lt;have ah:=xD O _ ad;dsimp only at ah)
          | (go_at_call 173;refine(HW.o _ (by exact N1) (by exact N2) (by exact N3)).mono ?_;rintro e O ⟨e1,X,V,e2,m2,U,e3,m3,Z,rfl,MW,l⟩;(try replace l:=aW l);have isB:=True.intro;have ac:cB O (w1.heap.size+1) (qS e1 X V) (qS e2 m2 U) (qS e3 m3 Z) y1 y2 y3:=(by simpa only[heap_drew,xF]using MW);have ae:=kN.bw l;obtain⟨v1,v2,v3,v4⟩:=ae.three;replace l:=hA.trans$ l.mono hA.size;obtain⟨t1,t2,t3⟩:=(H.bw l).two';obtain⟨s1,s2,s3,s4⟩:=(K.bw l).three;obtain⟨l1,l2,l3,l4,l5⟩:=(r2.bw l).four';have ad:=(l.cell$ xD w1 _ N).trans N;have b7:=(H.bw l).lt;have bg:=(K.bw l).lt;have ay:=(r2.bw l).lt;have ah:=xD O _ ad;dsimp only at ah))
       all_goals
        clear t1 t2 t3 s1 s2 s3 s4 l1 l2 l3 l4 l5;replace H:=H.bw l;replace D:=D.bw l;replace B:=B.bw l;replace I:=I.bw l;replace F:=F.trans$ aI l;have:=l.size;clear A N1 N2 N3 K r2 l MW N ad;first
        | (clear bk
           have K:=Blk.new O (qV e1 X V e2 m2 U e3 m3 Z) 39;have aa:qY O (O.alloc$ .cells (qV e1 X V e2 m2 U e3 m3 Z) 39):=bal;have A:=fM (bD ac aa)$ show base<=w1.heap.size from J;replace H:=H.bw aa;replace D:=D.bw aa;replace B:=B.bw aa;replace I:=I.bw aa;replace F:=F.trans$ aI aa;clear ac aa;obtain⟨b,a0,a1,a2,a3,a4⟩:=fY (pc:=pc) I A D B F J$ Or.inl rfl;obtain⟨g,a5,a6,a7,a8,a9⟩:=fY (pc:=pc) I A D B F J$ Or.inr rfl;simp only[kS,gP]at b a0 a1 a2 a3 a4 g a5 a6 a7 a8 a9;have P:=zh b;have M:=zh g;obtain⟨t1,t2,t3⟩:=H.two';obtain⟨s1,s2,s3,s4⟩:=K.three;obtain⟨z1,z2,z3⟩:=D.two';obtain⟨z4,z5,z6,z7⟩:=B.three;clear b g;go_wp2
           go_region
           all_goals
            go_wp2;exact bodyPost_ret (v:=.tuple #[.agg #[qI pc,qS (qP rb) 8 cp],.agg$ qV e1 X V e2 m2 U e3 m3 Z,qI f]) (by first|(simp[results,results129,go_sem,a0,a1,a2,a3,a4];done)|(simp[results,results129,go_sem,a5,a6,a7,a8,a9];done)) rfl ⟨_,_,_,_,_,_,_,_,_,by rw[HX.o.1],by rw[HX.o.2.1];first|exact P.o.1|exact M.o.1,by rw[HX.o.2.2.1,HX.o.2.2.2.1,HX.o.2.2.2.2];first|exact P.o.2.1|exact M.o.2.1,by first|exact P.o.2.2|exact M.o.2.2⟩
          )
        | (clear isB
           have K:Blk (gP O w1.heap.size (qS e1 X V) (qS e2 m2 U)$ qS e3 m3 Z) w1.heap.size (qV e1 X V e2 m2 U e3 m3 Z) 39:=((ae.set 0$ qS e1 X V).set 1$ qS e2 m2 U).set 2$ qS e3 m3 Z;have A:cB (gP O w1.heap.size (qS e1 X V) (qS e2 m2 U)$ qS e3 m3 Z) base _ _ _ _ _ _:=fM (fL (fL (fL ac (qR w1.heap.size 0) (qS e1 X V) Jd) (qR w1.heap.size 1) (qS e2 m2 U) Jd) (qR w1.heap.size 2) (qS e3 m3 Z) Jd)$ show base<=w1.heap.size+1 from J;have Y:Turn (λj=>j=w1.heap.size) O (gP O w1.heap.size (qS e1 X V) (qS e2 m2 U)$ qS e3 m3 Z):=((aM _ _ _ _).trans$ aM _ _ _ _).trans$ aM _ _ _ _;replace H:=aD Y H λe=>ak e;replace D:=aD Y D λe=>am e;replace B:=aD Y B λe=>ao e;replace I:=aX Y I (λk hk e=>by have e1:some rb=some k:=hk;injection e1 with e1;have e2:k=w1.heap.size:=e;omega);replace F:Turn (λj=>(qS (qP rb) 8 cp).ownBlock=some j) w (gP O w1.heap.size (qS e1 X V) (qS e2 m2 U)$ qS e3 m3 Z):=⟨Y.os.trans F.os,Y.tape.trans F.tape,Y.output.trans F.output,xM F.size Y.size,λk hk hs=>(Y.block k J (λe=>by have e2:k=w1.heap.size:=e;omega)).trans$ F.block k hk hs⟩;clear Y ae ac;unfold gP at H K D B I F A;obtain⟨b,a0,a1,a2,a3,a4⟩:=fY (pc:=pc) I A D B F J$ Or.inl rfl;obtain⟨g,a5,a6,a7,a8,a9⟩:=fY (pc:=pc) I A D B F J$ Or.inr rfl;simp only[kS,gP]at b a0 a1 a2 a3 a4 g a5 a6 a7 a8 a9;have P:=zh b;have M:=zh g;obtain⟨t1,t2,t3⟩:=H.two';obtain⟨s1,s2,s3,s4⟩:=K.three;obtain⟨z1,z2,z3⟩:=D.two';obtain⟨z4,z5,z6,z7⟩:=B.three;clear b g;go_wp2
           go_region
           all_goals
            go_wp2;exact bodyPost_ret (v:=.tuple #[.agg #[qI pc,qS (qP rb) 8 cp],.agg$ qV e1 X V e2 m2 U e3 m3 Z,qI f]) (by first|(simp[results,results129,go_sem,a0,a1,a2,a3,a4];done)|(simp[results,results129,go_sem,a5,a6,a7,a8,a9];done)) rfl ⟨_,_,_,_,_,_,_,_,_,by rw[HX.o.1],by rw[HX.o.2.1];first|exact P.o.1|exact M.o.1,by rw[HX.o.2.2.1,HX.o.2.2.2.1,HX.o.2.2.2.2];first|exact P.o.2.1|exact M.o.2.1,by first|exact P.o.2.2|exact M.o.2.2⟩
          ))
structure Zt extends Cy where
 ca:qO
 cc:Nat
 a1:qO
 a2:qO
 a3:qO
 ra:qO
 c1:Nat
 c2:Nat
 c3:Nat
 rc:Nat
 pc:Int
 rg:qi
abbrev Zt.c (Z:Zt):Array Value:=#[qI Z.pc,qS Z.ca 8 Z.cc]
abbrev Zt.m (Z:Zt):Array Value:=qV Z.a1 Z.n1 Z.c1 Z.a2 Z.n2 Z.c2 Z.a3 Z.n3 Z.c3
structure Zi (w:qw)(Z:Zt):Prop where
 c:IS w Z.ca 8 Z.cc Z.rg
 m:OB w 0 (qS Z.a1 Z.n1 Z.c1) Z.x1
 n:OB w 0 (qS Z.a2 Z.n2 Z.c2) Z.x2
 o:OB w 0 (qS Z.a3 Z.n3 Z.c3) Z.x3
 r:RS w Z.ra Z.rn Z.rc Z.rs
def StQ (w:qw)(r:Res)(e:Ending)(W:qw):Prop:=
 ∃rb cp a1 m1 d1 a2 m2 d2 a3 m3 d3,e=.returned (.tuple #[.agg #[qI r.pc,qS (qP rb) 8 cp],.agg$ qV a1 m1 d1 a2 m2 d2 a3 m3 d3,qI r.did,qI r.num])/\OI W w.heap.size (qS (qP rb) 8 cp) r.rg/\cB W w.heap.size (qS a1 m1 d1) (qS a2 m2 d2) (qS a3 m3 d3) r.x1 r.x2 r.x3/\qY w W
structure Shy (w:qw)(Z:Zt)(A B:Nat)(r:Res)(cv v1 v2 v3:Value)(W:qw):Prop where
 b:qY w W
 k0:Blk W w.heap.size Z.c 38
 k1:Blk W (w.heap.size+1) Z.m 39
 k2:Blk W (w.heap.size+1+1) zCo 38
 k3:Blk W (w.heap.size+1+1+1) zMe 39
 kA:Blk W A #[qI r.pc,cv] 38
 kB:Blk W B #[v1,v2,v3] 39
 hA:w.heap.size+1+1+1<A
 hB:A<B
 oc:OI W w.heap.size cv r.rg
 om:cB W w.heap.size v1 v2 v3 r.x1 r.x2 r.x3
 i:Zi W Z
section
variable {w W X:qw}{Z:Zt}{A B:Nat}{r r':Res}{cv v1 v2 v3 u1 u2 u3:Value}
def Zi.bw (h:Zi W Z)(b:qY W X):Zi X Z:=⟨h.c.bw b,h.m.bw b,h.n.bw b,h.o.bw b,h.r.bw b⟩
def Shy.step (h:Shy w Z A B r cv v1 v2 v3 W)(b:qY W X):Shy w Z A B r cv v1 v2 v3 X:=
 ⟨yT h.b b,h.k0.bw b,h.k1.bw b,h.k2.bw b,h.k3.bw b,h.kA.bw b,h.kB.bw b,h.hA,h.hB,h.oc.bw b,bD h.om b,h.i.bw b⟩
def Shy.did (h:Shy w Z A B r cv v1 v2 v3 W)(d n):Shy w Z A B { r with did:=d,num:=n } cv v1 v2 v3 W:=⟨h.b,h.k0,h.k1,h.k2,h.k3,h.kA,h.kB,h.hA,h.hB,h.oc,h.om,h.i⟩
def Shy.go (h:Shy w Z A B r cv v1 v2 v3 W)(hz:Zi w Z)(T:Turn (λj=>cv.ownBlock=some j\/j=A\/j=B) W X)(x:Blk X A #[qI r'.pc,cv] 38)(l:Blk X B #[u1,u2,u3] 39)(oc:OI X w.heap.size cv r'.rg)(y:cB X w.heap.size u1 u2 u3 r'.x1 r'.x2 r'.x3):Shy w Z A B r' cv u1 u2 u3 X:=by
 have f:=h.hA;have D:=h.hB;have b:qY w X:=aG h.b T (λk e=>by rcases e with e|e|e;exact(h.oc.lt k e).1;omega;omega) h.b.size;have low:∀{G:Nat}{u:Array Value}{t:TypeId},Blk W G u t->t≠3->G<A->Blk X G u t:=λg q E=>aD T g (λe=>by rcases e with e|e|e;exact jR h.oc g q e;omega;omega);exact⟨b,low h.k0 Ja J,low h.k1 Ja J,low h.k2 Ja J,low h.k3 Ja f,x,l,f,D,oc,y,hz.bw b⟩
def vE (ka:Blk W A #[u1,u2] 38)(kb:Blk W B #[v1,v2,v3] 39)(T:Turn (λj=>j=A\/j=B) W X){a x1 x2 x3:qi}{c q t u:Value}(h:OI W b c a)(m:cB W b q t u x1 x2 x3):OI X b c a/\cB X b q t u x1 x2 x3:=by
 have l:∀{v:Value}{x:qi},OB W b v x->∀k,v.ownBlock=some k->¬(k=A\/k=B):=λh k f e=>by
  rcases e with rfl|rfl
  .exact pZ h ka Ja f
  .exact pZ h kb Ja f
 exact⟨aX T h λk f e=>by
  rcases e with rfl|rfl
  .exact jR h ka Ja f
  .exact jR h kb Ja f,aT T m.1$ l m.1,aT T m.2.1$ l m.2.1,aT T m.2.2.1$ l m.2.2.1,m.2.2.2⟩
def Shy.reg {cp:Nat}(h:Shy w Z A B r (qS (qP rb) 8 cp) v1 v2 v3 W)(hz:Zi w Z)(i)(hi:i<8)(z)(t:wfi z):Shy w Z A B { r with rg:=r.rg.set i z } (qS (qP rb) 8 cp) v1 v2 v3 (W.setCell (qR rb i)$ qI z):=by
 have T:Turn (λj=>j=rb) W (W.setCell (qR rb i)$ qI z):=aM _ _ _ _;let⟨b,a⟩:=h.oc.blk;have f:∀{u:Value}{l:qi},OB W (qs w) u l->∀k,u.ownBlock=some k->¬k=rb:=λh k x e=>pZ h a Ja (by grind);have e:∀j,j=rb->(qS (qP rb) 8 cp).ownBlock=some j:=λj e=>by rw[e];rfl
 exact h.go hz (T.mono λj q=>.inl$ e j q) (aD T h.kA λq=>jR h.oc h.kA Ja$ e _ q) (aD T h.kB λq=>jR h.oc h.kB Ja$ e _ q) (h.oc.set i hi z t) ⟨aT T h.om.1$ f h.om.1,aT T h.om.2.1$ f h.om.2.1,aT T h.om.2.2.1$ f h.om.2.2.1,h.om.2.2.2⟩
def Shy.setpc (h:Shy w Z A B r cv v1 v2 v3 W)(hz:Zi w Z)(q):Shy w Z A B { r with pc:=q } cv v1 v2 v3 (W.setCell (qR A 0)$ qI q):=by
 have:=h.hB;have T:Turn (λj=>j=A\/j=B) W (W.setCell (qR A 0)$ qI q):=(aM _ _ _ _).mono λ_=>.inl;exact h.go hz (T.mono λ_=>.inr) (by simpa using h.kA.set 0$ qI q) (h.kB.other (qR A 0) (qI q) (by grind)) (vE h.kA h.kB T h.oc h.om).1 (vE h.kA h.kB T h.oc h.om).2
def Shy.mem (h:Shy w Z A B r cv v1 v2 v3 W)(hz:Zi w Z)(T:Turn (λj=>cv.ownBlock=some j) W X)(oc:OI X w.heap.size cv r'.rg)(u:cB X w.heap.size u1 u2 u3 r'.x1 r'.x2 r'.x3)(x:r'.pc=r.pc):Shy w Z A B r' cv u1 u2 u3 (gP (kS X A (qI r.pc) cv) B u1 u2 u3):=by
 have:=h.hB;have f:=aD T h.kA λe=>jR h.oc h.kA Ja e;have q:=aD T h.kB λe=>jR h.oc h.kB Ja e;have t:Turn (λj=>j=A\/j=B) X (gP (kS X A (qI r.pc) cv) B u1 u2 u3):=(((aM _ _ _ _).trans$ aM _ _ _ _).mono λk e=>Or.inl e).trans$ (((aM _ _ _ _).trans$ aM _ _ _ _).trans$ aM _ _ _ _).mono λk e=>Or.inr e;refine h.go hz ((T.mono λ_=>.inl).trans$ t.mono λ_=>.inr) ?_ ?_ (vE f q t oc u).1 (vE f q t oc u).2
 .have l:=((((f.set 0$ qI r.pc).set 1 cv).other (qR B 0) u1 (by grind)).other (qR B 1) u2 (by grind)).other (qR B 2) u3 (by grind);simpa[kS,gP,x]using l
 .have l:=((((q.other (qR A 0) (qI r.pc) (by grind)).other (qR A 1) cv (by grind)).set 0 u1).set 1 u2).set 2 u3;simpa[kS,gP]using l
def Shy.ne (h:Shy w Z A B r cv v1 v2 v3 W):A≠w.heap.size+1+1/\A≠w.heap.size+1+1+1/\B≠w.heap.size+1+1/\B≠w.heap.size+1+1+1/\w.heap.size+1+1≠A/\w.heap.size+1+1+1≠A/\w.heap.size+1+1≠B/\w.heap.size+1+1+1≠B:=by
 have:=h.hA;have:=h.hB;omega
def aCx {rb cp a1 f q a2 u j a3 t l:_}{tmps:Array Value}{Y V:qw}(oc:OI W w.heap.size (qS (qP rb) 8 cp) r.rg)(F:cB W w.heap.size (qS a1 f q) (qS a2 u j) (qS a3 t l) r.x1 r.x2 r.x3)(D:Blk W (w.heap.size+1+1) zCo 38)(E:Blk W (w.heap.size+1+1+1) zMe 39)(b:qY w W)(ha:tmps[6]?=some (.pointer$ qP$ w.heap.size+1+1))(x:tmps[7]?=some (.pointer$ qP$ w.heap.size+1+1+1))(hc:tmps[8]?=some (qI r.did))(hd:tmps[9]?=some (qI r.num))
 (H:Y=gP (kS W (w.heap.size+1+1) (qI r.pc)$ qS (qP rb) 8 cp) (w.heap.size+1+1+1) (qS a1 f q) (qS a2 u j) (qS a3 t l)\/Y=kS (gP W (w.heap.size+1+1+1) (qS a1 f q) (qS a2 u j)$ qS a3 t l) (w.heap.size+1+1) (qI r.pc) (qS (qP rb) 8 cp)) (y:V=Y\/V=Y.drew):
 bodyPost prog f75 (StQ w r) Exit.ret ⟨tmps,[]⟩ V:=by
 let⟨⟨a,d,e⟩,g,i,k,p,s⟩:=aNc oc F D E (aI b (S:=λ_=>False)) J H;rcases y with rfl|rfl
 .exact bodyPost_ret_by (v:=.tuple #[.agg #[qI r.pc,qS (qP rb) 8 cp],.agg$ qV a1 f q a2 u j a3 t l,qI r.did,qI r.num]) (by simp[results,results75,go_sem,ha,x,hc,hd,g,i,k,p,s]) rfl ⟨_,_,_,_,_,_,_,_,_,_,_,rfl,a,d,aG (Below.refl _ _) e (λ_ h=>h.elim) aO⟩
 .exact bodyPost_ret_by (v:=.tuple #[.agg #[qI r.pc,qS (qP rb) 8 cp],.agg$ qV a1 f q a2 u j a3 t l,qI r.did,qI r.num]) (by simp[results,results75,go_sem,ha,x,hc,hd,g,i,k,p,s]) rfl ⟨_,_,_,_,_,_,_,_,_,_,_,rfl,a,d,aG (Below.refl _ _) (aSz e) (λ_ h=>h.elim) aO⟩
def iN {a:qi}(h:cok pc n a=true):0<=pc/\pc<=4294967295/\n=8/\∀z∈a,0<=z/\z<=4294967295:=by
 unfold cok at h
 grind
def pY {a:qO}{b:qi}(h:OI w base (qS a n cap) b)(hn:n≠0):∃g,a=qP g:=by
 obtain⟨_,⟨f,_⟩|⟨g,d,e,i,_⟩⟩:=h.1
 .grind
 .grind
def aSw {n1 n2 n3:Nat}{x1 x2 x3:qi}{p v:Int}:(wrm n1 n2 n3 x1 x2 x3 p s v).2.2.2≠0->wrm n1 n2 n3 x1 x2 x3 p s v=(x1,x2,x3,(wrm n1 n2 n3 x1 x2 x3 p s v).2.2.2):=by
 unfold wrm
 repeat' split
 all_goals(intro h;first|rfl|exact absurd rfl h)
def aRg (C op d a i pc rg)(h:14<=op/\op<=19):((opz C op d a i pc rg).did=0/\(opz C op d a i pc rg).num=0/\(opz C op d a i pc rg).pc=m32 (pc+4))\/∃f,f≠0/\opz C op d a i pc rg=C.go 5 f pc rg:=by
 have A:∀s,((ldz C pc rg d a i s).did=0/\(ldz C pc rg d a i s).num=0/\(ldz C pc rg d a i s).pc=m32 (pc+4))\/∃f,f≠0/\ldz C pc rg d a i s=C.go 5 f pc rg:=λs=>by
  unfold ldz
  grind
 have B:∀s,((stz C pc rg d a i s).did=0/\(stz C pc rg d a i s).num=0/\(stz C pc rg d a i s).pc=m32 (pc+4))\/∃f,f≠0/\stz C pc rg d a i s=C.go 5 f pc rg:=λs=>by
  unfold stz;split
  .dsimp only;split
   .grind
   .next q=>have:=aSw q;refine .inr ⟨_,q,?_⟩;unfold Cy.wr;rw[this]
  .grind
 rcases(show op=14\/op=15\/op=16\/op=17\/op=18\/op=19 from J)with rfl|rfl|rfl|rfl|rfl|rfl
 .exact A 1
 .exact A 2
 .exact A 4
 .exact B 1
 .exact B 2
 .exact B 4
end
abbrev wrd (z:Int):Prop:=0<=z/\z<=4294967295
def aFs {rs:List Rg}{a k:Int}:∀{n:Nat},cQ rs a k n=true->∃j,j<n/\rH (rs.getD j z6) a=true/\yM (rs.getD j z6) k=true
 | 0,h=>by cases h
 | n+1,h=>by
   unfold cQ at h;split at h
   .grind
   .obtain⟨j,f,l⟩:=aFs h
    grind
def aEg {f a:Int}(t:0<=f)(l:f%32=0)(u:0<=s)(x:s%32=0)(q:f+s<=262144){g:Rg}(j:g∈cvL f s)(ha:rH g a=true):f<=a/\a<f+s:=by
 unfold cvL zD at j;rw[if_pos (by grind)]at j;exact(aCe _ _ _ (rQ (f+s) q J (s/32).toNat f t J l J) a).1 ⟨g,j,ha⟩
def Cv.ends (h:Cv C L):L.stack=65536+Ra C.ps C.ps.length/\cW L=L.stack+C.ck/\0<=C.ck/\C.ck<=1024/\C.ck%32=0/\∀i,i<L.slots.length->cW L<=L.slots.getD i 0:=by
 have l:=dZ.1 h.k;have hc:=l.1;unfold cfo at hc;simp at hc;have t:=bL l.2.2.2.1 C.ps.length aO;have e:L=lay C.ps C.cs C.cw C.ck:=by rw[h.e];unfold lkL;rw[if_pos h.k]
 have f:∀i,i<L.slots.length->L.slots.getD i 0=slt C.ps C.cw C.ck i:=λi hi=>by
  rw[e]at hi⊢;simp only[lay,List.length_map,List.length_range]at hi;simp[lay,xB,hi]
 have st:L.stack=65536+Ra C.ps C.ps.length:=by rw[e];rfl
 have a:=bC (x:=4*C.cw)
 have j:cW L=L.stack+C.ck:=by
  unfold cW;by_cases c:L.slots=[]
  .rw[if_pos c];have q:C.cs.toNat=0:=by have:=congrArg List.length c;rw[e]at this;simpa[lay]using this
   have:L.ram=Ra C.ps C.ps.length+C.ck:=by rw[e];simp[lay,q]
   unfold wrap64;omega
  .rw[if_neg c,f 0$ List.length_pos_iff.2 c,st];unfold slt;simp
 refine⟨st,j,J,J,J,λi hi=>?_⟩;rw[j,f i hi,st];unfold slt;have:=Int.mul_nonneg (Int.natCast_nonneg i)$ show 0<=rnd (4*C.cw)from J;omega
def aT8 (h:Cv C L){a:Int}(hn:n<=(plR C.ps L C.md C.bk s).length)(t:cQ (plR C.ps L C.md C.bk s) a 2 n=true):a<cW L\/131072<=a:=by
 have:=h.ends;have q:=h.n.1;have v:=(dZ.1 h.k).2.2.2.1;have:=h.cf.2.1
 have:0<=C.md/\C.md<(C.ps.length:Int):=by
  unfold pcq at q
  grind
 have l:=iL$ v C.md.toNat J;have:=bL v C.md.toNat J;have:=bL v C.ps.length aO;have:Ra C.ps (C.md.toNat+1)<=Ra C.ps C.ps.length:=aEt v _ _ J aO;have:Ra C.ps (C.md.toNat+1)=Ra C.ps C.md.toNat+dsz (C.ps.getD C.md.toNat zP):=rfl;have:=aKy C.ps C.md.toNat;have:=aKy C.ps C.ps.length;have u:dsz (C.ps.getD C.md.toNat zP)%32=0:=aNy _;let⟨j,e,b,d⟩:=aFs t;have f:=aGn _ j z6$ show j<(plR C.ps L C.md C.bk s).length from J;generalize (plR C.ps L C.md C.bk s).getD j z6=g at *;unfold plR rts at f;simp only[List.nil_append,List.mem_append,List.mem_map]at f;rcases f with((⟨x,hx,rfl⟩|⟨x,hx,rfl⟩)|⟨x,hx,rfl⟩)|⟨x,hx,rfl⟩
 .have:=aEg (by show 0<=65536+Ra C.ps C.md.toNat;omega) (by show(65536+Ra C.ps C.md.toNat)%32=0;omega) (by exact l.1) (by exact u) (by show 65536+Ra C.ps C.md.toNat+dsz _<=_;omega) hx b;have:(plc C.ps C.md.toNat).data+(plc C.ps C.md.toNat).size=65536+Ra C.ps C.md.toNat+dsz (C.ps.getD C.md.toNat zP):=rfl;omega
 .have:=aEg J J J J J hx b;omega
 .have:=aEg Ja Ja Ja Ja Ja hx b;omega
 .cases d
def aCb {α:Type}{f:α->List Value}{sz:Nat}(j:∀x,(f x).length=sz):∀(xs:List α)(k:Nat),(xs.take k).flatMap f=(xs.flatMap f).take (k*sz)
 | [],k=>Jb
 | x::xs,0=>Jb
 | x::xs,k+1=>by
   have e:=aCb j xs k;rw[List.take_succ_cons,List.flatMap_cons,List.flatMap_cons,e,List.take_append,j,show List.take ((k+1)*sz) (f x)=f x from List.take_of_length_le (by grind),show(k+1)*sz-sz=k*sz by grind]
def OG.pop {α:Type}{t:TypeId}{sz:Nat}{f:α->List Value}{c:Nat}{a:qO}{xs:List α}(j:∀x,(f x).length=sz)(h:OG t sz f w base (qS a (n+1) c) xs):OG t sz f w base (qS a n c) (xs.take n):=by
 obtain⟨y,h|⟨g,s,d,e,i,k,u,l,b,p⟩⟩:=h
 .grind
 .simp only[Value.slice.injEq]at e;obtain⟨rfl,e2,rfl⟩:=e;have q:(xs.take n).length=n:=by grind
  unfold OG;rw[q,aCb j,<-p,List.take_take,Nat.min_eq_left$ Nat.mul_le_mul_right _ J];exact⟨by rw[List.length_take,Array.length_toList,b];exact Nat.min_eq_left$ Nat.mul_le_mul_right _ J,.inr ⟨g,c,d,rfl,i,k,J,l,b,rfl⟩⟩
def MxO.pop {aP:Nat}{M:Mn}{f:List (PMod×Mb)}{β:Nat->Nat}(h:MxO W base aP C M f β)(e:M.hn=n+1):MxO W base aP { C with hz:=C.hz.take n } { M with hn:=n,hz:=C.hz.take n } f β:=by
 have q:=h.h;rw[e]at q;exact⟨h.m,h.e,h.k,h.q,h.l,OG.pop dJ q,h.bm,h.bh,h.vs,⟨h.vz.1,h.vz.2.1,h.vz.2.2.1,h.vz.2.2.2.1,h.vz.2.2.2.2.1,h.vz.2.2.2.2.2.1,rfl⟩⟩
abbrev sf4 (W:World)(b:Nat)(x0 x1 x2 x3:Int):World:=(((W.setCell ⟨b,0,none⟩ (qI x0)).setCell ⟨b,1,none⟩ (qI x1)).setCell ⟨b,2,none⟩ (qI x2)).setCell ⟨b,3,none⟩ (qI x3)
def aBn (W b a x1 x2 x3):Turn (λj=>j=b) W (sf4 W b a x1 x2 x3):=(((aC W b _ _).trans$ aC _ b _ _).trans$ aC _ b _ _).trans$ aC _ b _ _
def Blk.f4 {t:TypeId}{l j f q:Int}(k:Blk W b (qW l j f q) t)(a x1 x2 x3):Blk (sf4 W b a x1 x2 x3) b (qW a x1 x2 x3) t:=(((k.s0$ qI a).s1$ qI x1).s2$ qI x2).s3$ qI x3
def aSo {Z:World}{t:TypeId}(f:qY w X)(k:Blk w G cs t)(T:Turn (λj=>w.heap.size<=j) (X.setCell ⟨G,i,none⟩ v) Z):qY (w.setCell ⟨G,i,none⟩ v) Z:=by
 refine⟨T.os.trans f.os,T.tape.trans f.tape,T.output.trans f.output,?_,λj l=>?_⟩
 .have:=T.size;rw[aK]at this⊢;exact xM f.size this
 .rw[aK]at l;rw[T.block j (by rw[aK];have:=f.size;omega) J];by_cases e:j=G
  .subst e;exact Eq.trans ((k.bw f).set i v)$ Eq.symm$ k.set i v
  .rw[heap_setCell_other _ _ _ _ e,heap_setCell_other _ _ _ _ e];exact f.block j l
def aQ8 (A G Y C M p s w)(h:Mg A w G Y C M p s)(n)(hn:C.hz.length=n+1)(a x1 x2 x3)(hx:C.hz.getD n zFr=(a,x1,x2,x3)):Calls prog 238 #[.pointer$ some ⟨G,21,none⟩] w λe w'=>e=.returned (.tuple #[.agg$ qW a x1 x2 x3,.bool true])/\Mg A w' G Y { C with hz:=C.hz.take n } { M with hn:=n,hz:=C.hz.take n } p s/\Kb w w':=by
 let⟨a0,aP,Ls,β,d,_,_⟩:=h.m;have H:M.hn=n+1:=by rw[fP d.h,hn]
 have E:=(aY d.h).2.1;unfold maxLen at E;let⟨U,g⟩:=aN$ (w.alloc$ .cells (qW 0 0 0 0) 136).alloc$ .cells (qW 0 0 0 0) 136;have f:qY w U:=by rw[g];exact bal.alloc Jb _
 have l:Blk U w.heap.size (qW 0 0 0 0) 136:=by rw[g];exact(Blk.new _ _ _).alloc _
 have u:Blk U (w.heap.size+1) (qW 0 0 0 0) 136:=by rw[g];have:=Blk.new (w.alloc$ .cells (qW 0 0 0 0) 136) (qW 0 0 0 0) 136;simpa using this
 have hG:G<w.heap.size:=h.k.lt;let⟨b,k,i,B,R,S,W⟩:=((tU (z:=zFr) dJ d.h).bw f).at n J _ _ _ _ rfl;rw[hx]at B R S W;dsimp only at B R S W
 have q:b<w.heap.size:=by
  have:=(d.h.lt b (by rw[i];rfl)).2;exact this
 have D:U.cell? ⟨G,22,none⟩=qk M.ha M.hn M.hc:=(h.k.bw f).cell 22;have I:=(h.k.bw f).frozen 22;rw[i]at D;let⟨y0,y1,y2,y3⟩:=l.z4;have yf:=l.frozen;let⟨z0,z1,z2,z3⟩:=u.z4;have zf:=u.frozen;have hw:IntKind.i64.wrap ((M.hn:Int)-1)=(n:Int):=by rw[show(M.hn:Int)-1=(n:Int)from J,xP,xQ _ J]
 have h0:((M.hn:Int)==0)=false:=Jc
 have V:(n:Int)<(M.hn:Int):=J
 have K:(n:Int)<=(M.hc:Int):=jK$ (aY d.h).2.2.1;have n1:¬G=w.heap.size:=J
 have n2:¬G=w.heap.size+1:=J
 have n3:¬b=w.heap.size+1:=J
 have n4:¬w.heap.size=G:=J
 have n5:¬w.heap.size+1=G:=J
 have N:=zh (show Mg A (sf4 ((sf4 U (w.heap.size+1) a x1 x2 x3).setCell ⟨G,22,none⟩$ qS (some ⟨b,k,none⟩) n M.hc) w.heap.size a x1 x2 x3) G Y { C with hz:=C.hz.take n } { M with hn:=n,hz:=C.hz.take n } p s by
  rw[<-i]
  exact(h.put 22 (qS M.ha n M.hc) rfl λx=>x.pop H).bw (aSo (aG f (aBn U (w.heap.size+1) a x1 x2 x3) (λj F=>J) f.size) h.k$ (aBn _ w.heap.size a x1 x2 x3).mono λj F=>J))
 have Q:=zh$ ((aD (aBn U (w.heap.size+1) a x1 x2 x3) l λe=>J).other ⟨G,22,none⟩ (qS (some ⟨b,k,none⟩) n M.hc) Jd).f4 a x1 x2 x3
 have t:Zh (Kb w$ sf4 ((sf4 U (w.heap.size+1) a x1 x2 x3).setCell ⟨G,22,none⟩$ qS (some ⟨b,k,none⟩) n M.hc) w.heap.size a x1 x2 x3):=λj cs ty hn y=>by
  have F:=y.lt
  exact aD (aBn _ w.heap.size a x1 x2 x3) ((aD (aBn U (w.heap.size+1) a x1 x2 x3) (y.bw f) λe=>J).other ⟨G,22,none⟩ _ (λe=>by
   have O:j=G:=e;subst O
   exact hn$ .inl$ .inr$ .inl$ aH y h.k)) λe=>J
 have P:=zh g;clear g f l u h d H E hx q
 go_in
 go_wp2_with (rw[<-P.o])
 let⟨X,Z,t2,t3⟩:=Q.z4;exact bodyPost_ret_by (v:=.tuple #[.agg$ qW a x1 x2 x3,.bool true]) (by simp[results,results238,go_sem,X,Z,t2,t3]) rfl ⟨rfl,N.o,t.o⟩
def aN5 (s G Y C M k p w)(h:Mg s w G Y C M k p)(hn:C.hz.length=0):Calls prog 238 #[.pointer$ some ⟨G,21,none⟩] w (qB w$ .tuple #[.agg$ qW 0 0 0 0,.bool false]):=by
 let⟨B,aP,A,K,b,_,_⟩:=h.m;have u:M.hn=0:=by rw[fP b.h,hn]
 let⟨U,a⟩:=aN$ (w.alloc$ .cells (qW 0 0 0 0) 136).alloc$ .cells (qW 0 0 0 0) 136;have l:qY w U:=by rw[a];exact bal.alloc Jb _
 have f:Blk U w.heap.size (qW 0 0 0 0) 136:=by rw[a];exact(Blk.new _ _ _).alloc _
 have t:Blk U (w.heap.size+1) (qW 0 0 0 0) 136:=by rw[a];have:=Blk.new (w.alloc$ .cells (qW 0 0 0 0) 136) (qW 0 0 0 0) 136;simpa using this
 have q:U.cell? ⟨G,22,none⟩=qk M.ha M.hn M.hc:=(h.k.bw l).cell 22;rw[u]at q;have E:=f.z4;have I:=f.frozen;have H:=t.z4;have D:=zh$ aG l (aBn U w.heap.size 0 0 0 0) (λj F=>J) l.size;have y:=zh$ f.f4 0 0 0 0;have x:=zh a;clear a l f t h b u
 go_in
 go_wp2_with (rw[<-x.o])
 let⟨d,e,g,i⟩:=y.z4;exact bodyPost_ret_by (v:=.tuple #[.agg$ qW 0 0 0 0,.bool false]) (by simp[results,results238,go_sem,d,e,g,i]) rfl ⟨rfl,D.o⟩
def z8m:Array Value:=#[.string ⟨#[]⟩,qS none 0 0,qS none 0 0,qS none 0 0,qI 0,qS none 0 0,qS none 0 0,qS none 0 0]
def aNf (W:qw)(k:Nat)(v0 v1 v2 v3 v4 v5 v6 v7:Value):World:=(((((((W.setCell (qR k 0) v0).setCell (qR k 1) v1).setCell (qR k 2) v2).setCell (qR k 3) v3).setCell (qR k 4) v4).setCell (qR k 5) v5).setCell (qR k 6) v6).setCell (qR k 7) v7
def aBi (W k v0 v1 v2 v3 v4 a b d):Turn (λj=>j=k) W (aNf W k v0 v1 v2 v3 v4 a b d):=(((((((aC W k 0 v0).trans$ aC _ k 1 v1).trans$ aC _ k 2 v2).trans$ aC _ k 3 v3).trans$ aC _ k 4 v4).trans$ aC _ k 5 a).trans$ aC _ k 6 b).trans$ aC _ k 7 d
def aP6 {W:qw}{t:TypeId}(h:Blk W k z8m t)(v0 v1 v2 v3 v4 a b d):Blk (aNf W k v0 v1 v2 v3 v4 a b d) k #[v0,v1,v2,v3,v4,a,b,d] t:=by
 have k:=(((((((h.set 0 v0).set 1 v1).set 2 v2).set 3 v3).set 4 v4).set 5 a).set 6 b).set 7 d;have e:((((((((z8m.setIfInBounds 0 v0).setIfInBounds 1 v1).setIfInBounds 2 v2).setIfInBounds 3 v3).setIfInBounds 4 v4).setIfInBounds 5 a).setIfInBounds 6 b).setIfInBounds 7 d)=#[v0,v1,v2,v3,v4,a,b,d]:=by unfold z8m;simp
 rw[e]at k;exact k
def aUq {W:qw}{q:Nat}(j:Blk W q z8m 128)(v0 v1 v2 v3 v4 a b d)(Q:Ending->World->Prop)(tmps)(l:tmps[2]?=some (.pointer$ qP q))(f:Q (.returned$ .agg #[v0,v1,v2,v3,v4,a,b,d]) (aNf W q v0 v1 v2 v3 v4 a b d)):
 bodyPost prog f84 Q Exit.ret ⟨tmps,[]⟩ (aNf W q v0 v1 v2 v3 v4 a b d):=by
 let⟨e,g,i,k,p,s,t,u⟩:=Blk.eight'$ aP6 j v0 v1 v2 v3 v4 a b d;refine bodyPost_ret_by (v:=.agg #[v0,v1,v2,v3,v4,a,b,d]) ?_ rfl f;simp[results,results84,go_sem,l,e,g,i,k,p,s,t,u]
def Cpb.nil {j X:qw}{gm:Nat}{a:qO}{e1:Nat}{f:qi}{t:Value}(h:Cpm j X gm #[t,qS a f.length e1,v2,v3,v4,v5,v6,v7])(l:OG 3 1 clI X j.heap.size (qS a f.length e1) f):Cpb j (X.setCell (qR gm 2)$ qS none 0 0) gm X.heap.size a e1 f none 0 [] t v3 v4 v5 v6 v7:=by
 let⟨c2,b⟩:=h.set 2$ qS none 0 0;refine⟨c2,l.kept b λk q e=>?_,⟨⟨rfl,.inl ⟨rfl,rfl⟩⟩,Jb,Jb⟩,λk q=>(l.lt k q).2,h.k.lt,Jb⟩;subst e;let⟨c,kb⟩:=aE l q;exact absurd (aH kb h.k) Ja
def CmP (w:qw)(P:PMod)(e:Ending)(w':qw):Prop:=∃x:Mb,e=.returned (.agg$ qM P.nm x.a1 P.tz.length x.c1 x.a2 x.bl.length x.c2 x.a3 P.dz.length x.c3 P.bss x.a5 P.rz.length x.c5 x.a6 P.ss.length x.c6 x.a7 P.es.length x.c7)/\MOb w' w.heap.size (P,x)/\qY w w'
def ModO.setG {W:qw}{x:PMod×Mb}(h:MOb W base x)(kb:Blk W G cs 128){l:qw}(t:Turn (λj=>j=G) W l):MOb l base x:=ModO.keptS h t (λq f k u e=>by
 subst e;let⟨c,a⟩:=aE q u
 exact f$ aH a kb)
def zI (P b1 d1 b2 d2 a b G g S p W s Z w)(H:Msr w (P,⟨b1,d1,b2,d2,a,b,G,g,S,p,W,s,Z⟩))(R:PmG P):
 qC 84 #[.agg$ qM P.nm b1 P.tz.length d1 b2 a.length d2 b P.dz.length G P.bss g P.rz.length S p P.ss.length W s P.es.length Z] w (CmP w P):=by
 let⟨iB,c9,c1,c4,c8⟩:=info_parts aPj;let⟨w1,a1⟩:=aN$ ((w.alloc$ .cells (qM P.nm b1 P.tz.length d1 b2 a.length d2 b P.dz.length G P.bss g P.rz.length S p P.ss.length W s P.es.length Z) 128).alloc$ .cells #[.string ⟨#[]⟩,qS none 0 0,qS none 0 0,qS none 0 0,qI 0,qS none 0 0,qS none 0 0,qS none 0 0] 128).alloc$ .cells (qM P.nm b1 P.tz.length d1 b2 a.length d2 b P.dz.length G P.bss g P.rz.length S p P.ss.length W s P.es.length Z) 128;have B1:qY w w1:=by rw[a1];exact(bal.alloc Jb _).alloc Jc _
 have kb:Blk w1 w.heap.size (qM P.nm b1 P.tz.length d1 b2 a.length d2 b P.dz.length G P.bss g P.rz.length S p P.ss.length W s P.es.length Z) 128:=by rw[a1];exact((Blk.new _ _ _).alloc _).alloc _
 have Y:Blk w1 (w.heap.size+1) z8m 128:=by rw[a1];have:=(Blk.new (w.alloc$ .cells (qM P.nm b1 P.tz.length d1 b2 a.length d2 b P.dz.length G P.bss g P.rz.length S p P.ss.length W s P.es.length Z) 128) z8m 128).alloc$ .cells (qM P.nm b1 P.tz.length d1 b2 a.length d2 b P.dz.length G P.bss g P.rz.length S p P.ss.length W s P.es.length Z) 128;simpa[z8m]using this
 have kg:Blk w1 (w.heap.size+1+1) (qM P.nm b1 P.tz.length d1 b2 a.length d2 b P.dz.length G P.bss g P.rz.length S p P.ss.length W s P.es.length Z) 128:=by rw[a1];have:=Blk.new ((w.alloc$ .cells (qM P.nm b1 P.tz.length d1 b2 a.length d2 b P.dz.length G P.bss g P.rz.length S p P.ss.length W s P.es.length Z) 128).alloc$ .cells #[.string ⟨#[]⟩,qS none 0 0,qS none 0 0,qS none 0 0,qI 0,qS none 0 0,qS none 0 0,qS none 0 0] 128) (qM P.nm b1 P.tz.length d1 b2 a.length d2 b P.dz.length G P.bss g P.rz.length S p P.ss.length W s P.es.length Z) 128;simpa using this
 have C1:Cpm w w1 (w.heap.size+1+1) (qM P.nm b1 P.tz.length d1 b2 a.length d2 b P.dz.length G P.bss g P.rz.length S p P.ss.length W s P.es.length Z):=⟨B1,kg,J⟩;have F:=zb w λX hX=>H.bw hX;have b9:=zh a1;have N:=zh R;have HT:=zh$ pJ b1 P.tz.length d1 P.tz w1 (F w1 B1).t R.t.1;have cc:a.length<=1048576:=by have h1:=R.b.1;rw[<-H.bls,xH]at h1;exact h1
 have x1:=kb.cell 1;have az:=zh$ xA C1$ xA kb Y;clear a1 B1 kb Y kg C1 H R
 delta qC;go_in
 go_wp2_with (rw[<-b9.o])
 apply HT.mono;rintro e w2 ⟨t1,e1,rfl,O2,ad⟩;clear x1 HT;let⟨C1,kb,Y⟩:=az.o;have C2:=C1.bw ad;let⟨C3,t3⟩:=C2.set 1$ qS t1 P.tz.length e1;have O3:=aJ1 O2 C2.k Ja 1$ qS t1 P.tz.length e1;have C4:=Cpb.nil C3$ OG.mono O3 C1.b.size;have y1:=C2.k.cell 1;have bq:=C2.k.frozen 1;have y2:=C3.k.cell 2;have bl:=C3.k.frozen 2;let⟨X3,a8⟩:=aN$ (w2.setCell ⟨(w.heap.size+1+1),1,none⟩$ qS t1 P.tz.length e1).setCell ⟨(w.heap.size+1+1),2,none⟩$ qS none 0 0;rw[<-a8]at C4;have am:Blk X3 w.heap.size (qM P.nm b1 P.tz.length d1 b2 a.length d2 b P.dz.length G P.bss g P.rz.length S p P.ss.length W s P.es.length Z) 128:=by rw[a8];exact((kb.bw ad).other _ _ Jd).other _ _ Jd
 have aw:Blk X3 (w.heap.size+1) z8m 128:=by rw[a8];exact((Y.bw ad).other _ _ Jd).other _ _ Jd
 let⟨lo,bb⟩:=aN$ (w2.setCell ⟨(w.heap.size+1+1),1,none⟩$ qS t1 P.tz.length e1).heap.size;rw[<-bb]at C4;have x2:=am.cell 2;have b7:=zh$ xA C4$ xA am aw;have ay:=zh a8;clear C1 kb Y C2 C3 t3 O2 O3 ad C4 a8 am aw bb az b9;go_wp2_with (rw[<-ay.o])
 go_loopw [15] (λi wr=>∃(k:Nat) (a2:qO) (c2:Nat) (D:List Bk),k<=a.length/\i=qI k/\D.map (λB=>B.2.2.2)=(a.take k).map (λB=>B.2.2.2)/\Cpb w wr (w.heap.size+1+1) lo t1 e1 P.tz a2 c2 D (.string P.nm) (qS b P.dz.length G) (qI P.bss) (qS g P.rz.length S) (qS p P.ss.length W) (qS s P.es.length Z)/\Blk wr w.heap.size (qM P.nm b1 P.tz.length d1 b2 a.length d2 b P.dz.length G P.bss g P.rz.length S p P.ss.length W s P.es.length Z) 128/\Blk wr (w.heap.size+1) z8m 128) (qf a.length)
 .exact⟨0,_,_,[],xC _,rfl,Jb,b7.o⟩
 .obtain⟨k,a2,c2,D,hk,rfl,M,C,kb,Y⟩:=hrel;have bc:D.length=k:=by have:=congrArg List.length M;simp at this;omega
  have ca:D.length<=1048576:=J
  clear y1 bq y2 bl x2 b7 bc ay;by_cases bm:k<a.length
  .have bd:(k:Int)<(a.length:Int):=J
   have ce:(0:Int)<=(k:Int):=J
   have ms:=F wr C.c.b;let⟨gb,A,Cc,zs,ba,hB,p3,oz⟩:=ms.b k bm;dsimp only at ba hB p3 oz;subst ba;have bv:zs.length<=1048576:=(N.o.b.2 zs (by rw[<-ms.bls,List.mem_map];exact⟨_,List.mem_of_getElem? hB,rfl⟩)).1;have p1:=C.c.k.cell 2;simp only[Array.getElem?_eq_getElem,List.getElem?_toArray,List.getElem?_cons_succ,List.getElem?_cons_zero]at p1;have av:=zb wr λX hX=>pJ A zs.length Cc zs X (oz.bw hX) bv;have O:=zh$ xA C$ xA kb Y;have ac:=zh$ xA hB M;clear ms oz C hB M kb Y;go_wp2_with fail
   go_region_law
    (first
      | (go_simp;go_at_call 150;first|refine(av _ brf).mono ?_|refine(av _ brf.drew).mono ?_
         rintro e w6 ⟨U,Q,rfl,O6,f⟩;replace f:qY wr w6:=(by first|exact f|exact aW f)
         have C6:=O.1.bw f;have bu:qN w6 (w.heap.size+1+1) 2=qk a2 D.length c2:=C6.c.k.cell 2;have bp:(w6.alloc$ .cells #[qS U zs.length Q] 25).cell? (qR (w.heap.size+1+1) 2)=qk a2 D.length c2:=(C6.c.k.alloc _).cell 2;have K:=zh (C6.bw$ brf.alloc aO$ .cells #[qS U zs.length Q] 25).b.head;have ao:=zh$ cA w6 _ 25 [qS U zs.length Q] rfl;have b6:=zh λw4 d I t=>O.1.bank (w4:=w4) (d:=d) (O6.bw$ brf.alloc aO$ .cells #[qS U zs.length Q] 25) (yT f$ brf.alloc aO$ .cells #[qS U zs.length Q] 25) I t;have ax:=zh (λw4(t:World.grownBy _ w4 _)=>xA (bG t ((O.2.1.bw f).alloc$ .cells #[qS U zs.length Q] 25) (λe=>by obtain⟨c,kk⟩:=aE K e.symm;exact absurd (aH kk$ (O.2.1.bw f).alloc$ .cells #[qS U zs.length Q] 25) Ja)) (bG t ((O.2.2.bw f).alloc$ .cells #[qS U zs.length Q] 25) (λe=>by obtain⟨c,kk⟩:=aE K e.symm;exact absurd (aH kk$ (O.2.2.bw f).alloc$ .cells #[qS U zs.length Q] 25) Ja)));have an:=zh (C6.bw$ brf.alloc aO$ .cells #[qS U zs.length Q] 25).lh;clear O6 f C6)
      | (refine step_append_lies _ (by rfl) _ _ 99 (by rfl) lo 25 iB (qS none 0 0) 1 24 underlying99 c9 c1 c4 c8 rfl Ja (qS a2 D.length c2) D.length (D.map λB=>qS B.1 B.2.1 B.2.2.1) (by rfl) K.o (qh w6 0) 1 1 [qS U zs.length Q] (by rfl) (by rfl) ao.o (by intro u hu;simp at hu;subst hu;rfl) Ja Jf J an.o _ rfl ?_;intro g4 cg w4 I t be cb;have V:=zh$ xA (b6.o w4 _ I t)$ ax.o w4 t;have c0:qN w4 (w.heap.size+1+1) 2=qk a2 D.length c2:=V.o.1.1.k.cell 2;have f4:=V.o.1.1.k.frozen 2;clear I t be))
   all_goals
    clear p1 bu bp c0 p3 f4 K ao b6 ax an;go_wp2
    go_roundw
    .have⟨a',c',ed,CF⟩:=V.1.2;exact⟨k+1,a',c',_,J,by go_num,by rw[List.map_append,ac.o.2,nK ac.o.1];rfl,CF,V.o.2.1.other _ _ Jd,V.o.2.2.other _ _ Jd⟩
    .simp[qf,intOf];omega
  .have bd:¬(k:Int)<(a.length:Int):=J
   obtain rfl:k=a.length:=J
   rw[List.take_length]at M;have x3:=kb.cell 3;have aq:=zh$ aJf b P.dz.length G P.dz wr (F wr C.c.b).d N.d.1;have O:=zh$ xA C$ xA kb Y;have ac:=zh (show D.map (λB=>B.2.2.2)=P.bl by rw[M];exact(F.o wr C.c.b).bls);clear C M kb Y;go_wp2_with fail
   apply aq.mono;rintro e w7 ⟨a3,c3,rfl,o7,k7⟩;let⟨C7,D7,P7,T7,_⟩:=O.1.row (v3':=qS a3 P.dz.length c3) o7 k7 Ja 3 rfl;have y3:=C7.c.k.cell 3;have bf:=C7.c.k.frozen 3;let⟨X7,a9⟩:=aN$ w7.setCell ⟨(w.heap.size+1+1),3,none⟩$ qS a3 P.dz.length c3;rw[<-a9]at D7 P7 T7;have ah:Blk X7 w.heap.size (qM P.nm b1 P.tz.length d1 b2 a.length d2 b P.dz.length G P.bss g P.rz.length S p P.ss.length W s P.es.length Z) 128:=by rw[a9];exact(O.o.2.1.bw k7).other _ _ Jd
   have b8:Blk X7 (w.heap.size+1) z8m 128:=by rw[a9];exact(O.o.2.2.bw k7).other _ _ Jd
   have x5:=ah.cell 5;have b3:=zh$ pJ g P.rz.length S P.rz X7 (F X7 D7.c.b).r N.r.1;have E:=zh$ xA D7$ xA P7$ xA ah$ xA b8$ xM O.1.c.b.size$ Nat.le_refl wr.heap.size;have bo:=zh a9;clear x3 C7 D7 P7 T7 a9 o7 k7 ah b8 aq;go_wp2_with (rw[<-bo.o])
   apply b3.mono;rintro e w8 ⟨a5,c5,rfl,o8,k8⟩;let⟨C8,D8,P8,T8,_⟩:=E.1.row (v5':=qS a5 P.rz.length c5) o8 k8 Ja 5 rfl;have bk:=zh$ E.1.apart o8;have y5:=C8.c.k.cell 5;have bz:=C8.c.k.frozen 5;let⟨X8,aa⟩:=aN$ w8.setCell ⟨(w.heap.size+1+1),5,none⟩$ qS a5 P.rz.length c5;rw[<-aa]at D8 P8 T8;have ai:Blk X8 w.heap.size (qM P.nm b1 P.tz.length d1 b2 a.length d2 b P.dz.length G P.bss g P.rz.length S p P.ss.length W s P.es.length Z) 128:=by rw[aa];exact(E.o.2.2.1.bw k8).other _ _ Jd
   have b5:Blk X8 (w.heap.size+1) z8m 128:=by rw[aa];exact(E.o.2.2.2.1.bw k8).other _ _ Jd
   have x6:=ai.cell 6;have b4:=zh$ aJc p P.ss.length W P.ss X8 (F X8 D8.c.b).i N.i.1;have y:=zh$ xA D8$ xA P8$ xA (dA T8 E.1.c.k E.2.1 Ja)$ xA ai b5;have br:=zh aa;clear x5 y3 bf C8 D8 P8 T8 aa o8 k8 ai b5 b3;go_wp2_with (rw[<-br.o])
   apply b4.mono;rintro e w9 ⟨a6,c6,rfl,o9,k9⟩;let⟨C9,D9,P9,T9,_⟩:=y.1.row (v6':=qS a6 P.ss.length c6) o9 k9 Ja 6 rfl;have y6:=C9.c.k.cell 6;have bh:=C9.c.k.frozen 6;let⟨X9,ab⟩:=aN$ w9.setCell ⟨(w.heap.size+1+1),6,none⟩$ qS a6 P.ss.length c6;rw[<-ab]at D9 P9 T9;have ak:Blk X9 w.heap.size (qM P.nm b1 P.tz.length d1 b2 a.length d2 b P.dz.length G P.bss g P.rz.length S p P.ss.length W s P.es.length Z) 128:=by rw[ab];exact(y.o.2.2.2.1.bw k9).other _ _ Jd
   have au:Blk X9 (w.heap.size+1) z8m 128:=by rw[ab];exact(y.o.2.2.2.2.bw k9).other _ _ Jd
   have x7:=ak.cell 7;have ap:=zh$ aJb s P.es.length Z P.es X9 (F X9 D9.c.b).e N.e.1;have l:=zh$ xA D9$ xA P9$ xA (dA T9 y.1.c.k y.2.1 Ja)$ xA (dA T9 y.1.c.k y.2.2.1 Ja)$ xA ak au;have bj:=zh ab;clear x6 y5 bz C9 D9 P9 T9 ab o9 k9 ak au b4;go_wp2_with (rw[<-bj.o])
   apply ap.mono;rintro e bg ⟨a7,c7,rfl,b0,aj⟩;let⟨af,a0,ag,a4,_⟩:=l.1.row (v7':=qS a7 P.es.length c7) b0 aj Ja 7 rfl;have y7:=af.c.k.cell 7;have cd:=af.c.k.frozen 7;let⟨XX,ae⟩:=aN$ bg.setCell ⟨(w.heap.size+1+1),7,none⟩$ qS a7 P.es.length c7;rw[<-ae]at a0 ag a4;have q:Blk XX (w.heap.size+1) z8m 128:=by rw[ae];exact(l.o.2.2.2.2.2.bw aj).other _ _ Jd
   have ar:=zh$ a0.done (P:=P) ac N.d.2 (dA a4 l.1.c.k l.2.2.2.1 Ja) O.1.c.b.size (dA a4 l.1.c.k l.2.2.1 Ja) E.1.c.b.size (dA a4 l.1.c.k l.2.1 Ja) y.1.c.b.size ag l.1.c.b.size bk;let⟨x0,x1,x2,x3,x4,x5,x6,x8⟩:=Blk.eight' a0.c.k;have KZ:=q;unfold z8m at KZ;have r0:=Blk.eight' KZ;have rf:=q.frozen;have HF:Zh (CmP w P (.returned$ .agg$ qM P.nm t1 P.tz.length e1 a2 D.length c2 a3 P.dz.length c3 P.bss a5 P.rz.length c5 a6 P.ss.length c6 a7 P.es.length c7)$ aNf XX (w.heap.size+1) (.string P.nm) (qS t1 P.tz.length e1) (qS a2 D.length c2) (qS a3 P.dz.length c3) (qI P.bss) (qS a5 P.rz.length c5) (qS a6 P.ss.length c6)$ qS a7 P.es.length c7):=⟨⟨t1,e1,a2,c2,D,a3,c3,a5,c5,a6,c6,a7,c7⟩,rfl,ModO.setG (x:=(P,(⟨t1,e1,a2,c2,D,a3,c3,a5,c5,a6,c6,a7,c7⟩:Mb))) ar q$ aBi _ _ _ _ _ _ _ _ _ _,aG a0.c.b (aBi _ _ _ _ _ _ _ _ _ _) (λj hj=>J) a0.c.b.size⟩;have bn:=zh q;have bi:=zh ae;clear x7 y6 bh af a0 ag a4 ae b0 aj q KZ ap ar;go_wp2_with (rw[<-bi.o])
   exact aUq bn _ _ _ _ _ _ _ _ _ _ rfl HF
def aPp (j:k<xs.length)(h:¬frk ps (xs.getD k zFr)):¬mO ps cd xs:=λf=>h$ f.2 k j
def aKm (j:xs.length=n)(f:(n:Int)<=cd)(l:¬k<n)(h:∀i,i<k->frk ps (xs.getD i zFr)):mO ps cd xs:=⟨by rw[j];exact f,λi hi=>h i J⟩
def aVq {w:qw}{a:qO}{ms:List Md}(h:MSD w a n cap ms){m b:Int}(l:0<=pcq (aF ms) m b):∃gm f D,a=some (qR gm f)/\ms.getD m.toNat aL=D/\(0<=m/\m<(n:Int))/\∀X,qY w X->X.cell? (qR gm$ f+m.toNat*8)=some (.string D.nm)/\X.cell? (qR gm$ f+m.toNat*8+1)=some (qS D.ta D.tn D.tc)/\X.cell? (qR gm$ f+m.toNat*8+2)=some (qS D.ba D.bn D.bc)/\X.cell? (qR gm$ f+m.toNat*8+3)=some (qS D.da D.dn D.dc)/\X.cell? (qR gm$ f+m.toNat*8+4)=some (qI D.bss)/\X.cell? (qR gm$ f+m.toNat*8+5)=some (qS D.ra D.rn D.rc)/\X.cell? (qR gm$ f+m.toNat*8+6)=some (qS D.ia D.im D.ic)/\X.cell? (qR gm$ f+m.toNat*8+7)=some (qS D.ea D.en D.ec):=by
 let⟨⟨d,e⟩,_⟩:=mS h l;obtain⟨gm,f,rfl,g,v1,v2,v3,v4,i,k,p⟩:=h.s.at m.toNat J;exact⟨gm,f,_,rfl,rfl,⟨d,e⟩,λX j=>⟨aB j g,aB j v1,aB j v2,aB j v3,aB j v4,aB j i,aB j k,aB j p⟩⟩
def wW (M w)(h:MnD w M):
 qC 69 #[.agg$ qA M] w (Yn (mO (aF M.ms) M.cd M.hz) w):=by
 let⟨V,hV,bV,W⟩:=nwb w (qA M) 43;have hl:=h.h.1;have a4:=h.h.2.1;have a8:=h.m.s.2.1;unfold maxLen at a4 a8;have P:=zh$ h.bw bV;have HV:=zh hV;have N:=zh$ xA bV W;have C:=zb V λX u=>show qn X w 0=qk M.ma M.mn M.mc/\qn X w 4=qj M.cd/\qn X w 13=qk M.ha M.hn M.hc from⟨(W.bw u).cell 0,(W.bw u).cell 4,(W.bw u).cell 13⟩;by_cases c0:M.cd<(M.hn:Int)
 .have F:Zh (¬mO (aF M.ms) M.cd M.hz):=λf=>jK f.1;let⟨y0,y4,a0⟩:=C V brf
  delta qC;go_in
  go_wp2_with (rw[<-HV.o])
  go_ret;exact dN F$ N.1
 have a7:(M.hn:Int)<=M.cd:=J
 have a9:=zh$ Below.refl V.heap.size V;let⟨y0,y4,a0⟩:=C V brf
 delta qC;go_in
 go_wp2_with (rw[<-HV.o])
 go_loopw [3] (λi wr=>∃k:Nat,k<=M.hn/\i=qI k/\(∀i,i<k->frk (aF M.ms) (M.hz.getD i zFr))/\qY V wr) (qf M.hn)
 .exact⟨0,xC _,rfl,λi hi=>absurd hi J,a9⟩
 .obtain⟨k,hk,rfl,R,O⟩:=hrel;let⟨y0,y4,a0⟩:=C wr O;have HB:=zh O;by_cases a1:k<M.hn
  .have aa:(k:Int)<(M.hn:Int):=J
   let⟨g,f,hg,q0,q1,q2,q3⟩:=(P.h.bw O).at k a1 _ _ _ _ rfl;have E:=zh λ(q:¬frk (aF M.ms) (M.hz.getD k zFr))=>aPp (cd:=M.cd) (show k<M.hz.length from J) q
   have a5:=zh (λ(q:frk (aF M.ms) (M.hz.getD k zFr))(i:Nat)(hi:i<k+1)=>show frk (aF M.ms) (M.hz.getD i zFr)by
    by_cases e:i=k
    .rw[e];exact q
    .exact R i J)
   generalize M.hz.getD k zFr=x at *;obtain⟨a,p,A,B⟩:=x;let⟨U,hU,bU,S⟩:=nwb wr (qW a p A B) 136;have G:=yT O bU;have t:=zh$ jS M.ma M.mn M.mc M.ms a p U$ P.m.s.bw G;rw[fG P.o.m a p]at t;have l:=zh G;have HU:=zh hU;have H:=zh S;rw[hg]at a0;let⟨j0,_,_⟩:=C U G;have j1:=S.cell 0;have j2:=S.cell 1;clear O R hU S bU G hg;by_cases s:0<=pcq (aF M.ms) a p
   .rw[xR s]at t;let⟨gm,d,D,ha,hD,⟨m0,m1⟩,a3⟩:=aVq (P.m.bw l) s;have HP:=zb U λX u=>sS (P.m.bw l) s hD X u;have Q:=zb U λX u=>xA (a3 X u)$ xA (C X$ yT l u).1$ xA ((H.bw u).cell 0)$ xA ((H.bw u).cell 1)$ xA ((H.bw u).cell 2)$ (H.bw u).cell 3;have y:=zh (show frk (aF M.ms) (a,p,A,B) ↔ (0<=A/\A<=pcq (aF M.ms) a p)/\0<=B/\B<=4294967295 by unfold frk tgk;simp[s]);generalize pcq (aF M.ms) a p=q at *;rw[ha]at y0 j0 t;have HA:=zh ha;clear a3 hD s ha;go_wp2_with (rw[<-HU.o])
    apply t.mono;rintro e X1 ⟨rfl,j⟩;let⟨⟨u0,u1,u2,u3,u4,u5,u6,u7⟩,z0,t0,t1,t2,t3⟩:=Q X1 j;have K:=zh j;have I:=zb X1 λX u=>(HP X$ yT K u).mono (λe b he=>show ∃xa Z xc,e=.returned (.tuple #[qS xa Z xc,.bool true])/\(Z:Int)=q/\qY U b from he);rw[HA.o]at z0;clear j q0 q1 q2 q3 y0 y4 a0 j0 j1 j2 t HU HP;by_cases c3:B<0
    .have F:=zh$ E λf=>jK$ y.1 f;go_wp2;go_ret;exact dN F$ yT N.1$ yT l K
    by_cases c4:4294967295<B
    .have F:=zh$ E λf=>jK$ y.1 f;go_wp2;go_ret;exact dN F$ yT N.1$ yT l K
    go_wp2_with fail
    go_region_held3 (λb=>qn b w 0=qk (qe gm d) M.mn M.mc/\qn b wr 0=qj a/\qn b wr 1=qj p/\qN b gm (d+a.toNat*8)=some (.string D.nm)/\qN b gm (d+a.toNat*8+1)=qk D.ta D.tn D.tc/\qN b gm (d+a.toNat*8+2)=qk D.ba D.bn D.bc/\qN b gm (d+a.toNat*8+3)=qk D.da D.dn D.dc/\qN b gm (d+a.toNat*8+4)=qj D.bss/\qN b gm (d+a.toNat*8+5)=qk D.ra D.rn D.rc/\qN b gm (d+a.toNat*8+6)=qk D.ia D.im D.ic/\qN b gm (d+a.toNat*8+7)=qk D.ea D.en D.ec) (go_keep)
     (first
       | (go_at_call 118;first
           | with_reducible refine(I.o _ brf).mono ?_
           | with_reducible refine(I.o _ brf.drew).mono ?_
          rintro e w1 ⟨xa,Z,xc,rfl,Y,j⟩;have a2:=zh Y;have a6:=zh j;let⟨⟨s0,s1,s2,s3,s4,s5,s6,s7⟩,p0,r0,r1,r2,r3⟩:=Q w1 j;rw[HA.o]at p0
          clear j Y))
    clear u0 u1 u2 u3 u4 u5 u6 u7 s0 s1 s2 s3 s4 s5 s6 s7 z0 t0 t1 t2 t3 I;have HE:=zh$ yT l a6;by_cases c5:A<0
    .have F:=zh$ E λf=>jK$ y.1 f;go_wp2;go_ret;exact dN F$ yT N.1 HE
    by_cases c6:(Z:Int)<A
    .have F:=zh$ E (λf=>by have:=y.1 f;have h2:=a2.o;omega);go_wp2;go_ret;exact dN F$ yT N.1 HE
    have HY:=zh$ a5$ y.2 (by have h2:=a2.o;omega);go_wp2
    go_roundw
    .exact⟨k+1,J,by go_num,HY,HE⟩
    .simp[qf,intOf];omega
   .rw[xS s]at t;have F:=zh$ E λf=>s f.1.1;go_wp2_with (rw[<-HU.o])
    apply t.mono;rintro e X1 ⟨rfl,j⟩;go_wp2;go_ret;exact dN F$ yT N.1$ yT l j
  .have HY:=zh$ aKm hl a7 a1 R;clear O R;go_wp2;go_ret;exact uB HY$ yT N.1 HB
def mP (a x1 x2 x3 w):
 qC 194 #[.agg$ qW a x1 x2 x3] w (qB w$ .agg$ qT a x1 x2):=by
 delta qC;go_in
 go_wp2;refine bodyPost_ret (v:=.agg$ qT a x1 x2) (by simp[results,results194,go_sem]) rfl ⟨rfl,?_⟩;exact bal.alloc Jb _
def aC1 (M w)(h:MnD w M):
 qC 146 #[.agg$ qA M] w (Yn (mO (aF M.ms) M.cd M.hz) w):=by
 let⟨V,hV,bV,R⟩:=nwb w (qA M) 43;have hl:=h.h.1;have a1:=h.h.2.1;unfold maxLen at a1;have a4:=zh$ h.h.bw bV;have a5:=zh$ h.m.bw bV;have HV:=zh hV;have Z:=zh$ xA bV R;have HC:=zb V λX F=>show qn X w 0=qk M.ma M.mn M.mc/\qn X w 4=qj M.cd/\qn X w 13=qk M.ha M.hn M.hc from⟨(R.bw F).cell 0,(R.bw F).cell 4,(R.bw F).cell 13⟩;clear hV R bV h;generalize M.ha=hA at *;have y0:=HC V brf;by_cases c0:M.cd<(M.hn:Int)
 .have B:Zh (¬mO (aF M.ms) M.cd M.hz):=λf=>jK f.1
  delta qC;go_in
  go_wp2_with (rw[<-HV.o])
  go_ret;exact dN B$ Z.1
 have a3:(M.hn:Int)<=M.cd:=J
 have a6:=zh$ Below.refl V.heap.size V
 delta qC;go_in
 go_wp2_with (rw[<-HV.o])
 clear y0;go_loopw [15] (λi wr=>∃k:Nat,k<=M.hn/\i=qI k/\(∀i,i<k->frk (aF M.ms) (M.hz.getD i zFr))/\qY V wr) (qf M.hn)
 .exact⟨0,xC _,rfl,λi hi=>absurd hi J,a6⟩
 .obtain⟨k,hk,rfl,hF,P⟩:=hrel;have HB:=zh P;by_cases Q:k<M.hn
  .have a7:(k:Int)<(M.hn:Int):=J
   obtain⟨g,f,rfl,q0,q1,q2,q3⟩:=(a4.bw P).at k Q _ _ _ _ rfl;have a0:=zh λ(q:¬frk (aF M.ms) (M.hz.getD k zFr))=>aPp (cd:=M.cd) (show k<M.hz.length from J) q
   have a2:=zh (λ(q:frk (aF M.ms) (M.hz.getD k zFr))(i:Nat)(hi:i<k+1)=>show frk (aF M.ms) (M.hz.getD i zFr)by
    by_cases e:i=k
    .rw[e];exact q
    .exact hF i J)
   generalize M.hz.getD k zFr=x at *;obtain⟨b,d,p,s⟩:=x;let⟨U,hU,bU,G⟩:=nwb wr (qW b d p s) 136;have W:=yT P bU;have N:=zh W;have HU:=zh hU;have j:=zb U λX F=>show qn X w 0=qk M.ma M.mn M.mc/\qn X wr 0=qj b/\qn X wr 1=qj d/\qn X wr 2=qj p/\qn X wr 3=qj s from⟨(HC X$ yT W F).1,(G.bw F).cell 0,(G.bw F).cell 1,(G.bw F).cell 2,(G.bw F).cell 3⟩;have E:=zb U λX F=>(mP b d p s X).mono λe a Y=>show e=.returned (.agg$ qT b d p)/\qY U a from⟨Y.1,yT F Y.2⟩;have u:=zb U λX F=>(lI M.ma M.mn M.mc M.ms b d p X$ (a5.bw W).bw F).mono λe a Y=>show e=.returned (.bool$ decide$ tgk (aF M.ms) b d p)/\qY U a from⟨Y.1,yT F Y.2⟩;have H:=zh$ cO s;have I:Zh (frk (aF M.ms) (b,d,p,s) ↔ tgk (aF M.ms) b d p/\0<=s/\s<=4294967295):=Iff.rfl;clear P hF hU G bU W;by_cases A:tgk (aF M.ms) b d p
   .rw[xR A]at u;by_cases c2:0<=s/\s<=4294967295
    .rw[xR c2]at H;have HY:=zh$ a2$ I.2 ⟨A,c2⟩;clear A c2;have p0:=j U brf;go_wp2_with (rw[<-HU.o])
     first|(go_region_held3 (λa=>qn a w 0=qk M.ma M.mn M.mc/\qn a wr 0=qj b/\qn a wr 1=qj d/\qn a wr 2=qj p/\qn a wr 3=qj s) (go_keep)
      (first
        | (go_at_call 194;first
            | with_reducible refine(E.o _ brf).mono ?_
            | with_reducible refine(E.o _ brf.drew).mono ?_
           rintro e w1 ⟨rfl,y⟩;have l:=zh y;have r0:=j w1 y
           clear y)
        | (go_at_call 193;first
            | with_reducible refine(u.o _ l.o).mono ?_
            | with_reducible refine(u.o _ l.o.drew).mono ?_
           rintro e w2 ⟨rfl,t⟩;have D:=zh t;have n0:=j w2 t
           clear t)
        | (go_at_call 183;refine(H _).mono ?_;rintro e w3 ⟨rfl,rfl⟩)))|fail
     have O:=zh$ yT N D;clear p0 r0 n0 E u j l D;go_wp2
     go_roundw
     .exact⟨k+1,J,by go_num,HY,O⟩
     .simp[qf,intOf];omega
    .rw[xS c2]at H;have B:=zh$ a0 λf=>c2 (I.1 f).2;clear A c2;have p0:=j U brf;go_wp2_with (rw[<-HU.o])
     first|(go_region_held3 (λa=>qn a w 0=qk M.ma M.mn M.mc/\qn a wr 0=qj b/\qn a wr 1=qj d/\qn a wr 2=qj p/\qn a wr 3=qj s) (go_keep)
      (first
        | (go_at_call 194;first
            | with_reducible refine(E.o _ brf).mono ?_
            | with_reducible refine(E.o _ brf.drew).mono ?_
           rintro e w1 ⟨rfl,y⟩;have l:=zh y;have r0:=j w1 y
           clear y)
        | (go_at_call 193;first
            | with_reducible refine(u.o _ l.o).mono ?_
            | with_reducible refine(u.o _ l.o.drew).mono ?_
           rintro e w2 ⟨rfl,t⟩;have D:=zh t;have n0:=j w2 t
           clear t)
        | (go_at_call 183;refine(H _).mono ?_;rintro e w3 ⟨rfl,rfl⟩)))|fail
     have O:=zh$ yT N D;clear p0 r0 n0 E u j l D;go_wp2;go_ret;exact dN B$ yT Z.1 O
   .rw[xS A]at u
    .have B:=zh$ a0 λf=>A (I.1 f).1;clear A;go_wp2_with (rw[<-HU.o])
     refine wp_region_held_drew (S:=(λa=>qn a w 0=qk M.ma M.mn M.mc/\qn a wr 0=qj b/\qn a wr 1=qj d/\qn a wr 2=qj p/\qn a wr 3=qj s)) Je ?_ λhHeld=>?_
     .exact j _ brf.drew
     refine tkW 0 rfl ?_;try simp only[yG,Act.put]
     refine tkW 1 rfl ?_;try simp only[yG,Act.put]
     refine tkW 2 rfl ?_;try simp only[yG,Act.put]
     refine wpAnyH_ready (rs:=[3]) Je Jb$ AllReadyH.cons rfl (λK C=>?_) AllReadyH.nil;go_simp;apply(E _ brf.drew).mono;rintro e w1 ⟨rfl,y⟩;have l:=zh y;clear y;try go_wp2_with fail
     refine C.out _ _ ?_ λhHeld=>?_
     .exact j _ l
     clear C K;try simp only[yG,Act.put]
     refine wpAnyH_ready (rs:=[4]) Je Jb$ AllReadyH.cons rfl (λK C=>?_) AllReadyH.nil;go_simp;apply(u _ l).mono;rintro e w2 ⟨rfl,t⟩;have D:=zh t;clear t;try go_wp2_with fail
     refine C.out _ _ ?_ λhHeld=>?_
     .exact j _ D
     clear C K;try simp only[yG,Act.put]
     refine tkW 5 rfl ?_;try simp only[yG,Act.put]
     refine tkW 6 rfl ?_;try simp only[yG,Act.put]
     refine tkS 7 rfl ?_;try simp only[yG,Act.put]
     refine tkS 8 rfl ?_;try simp only[yG,Act.put]
     refine tkS 9 rfl ?_;try simp only[yG,Act.put]
     refine tkS 10 rfl ?_;try simp only[yG,Act.put]
     refine tkW 11 rfl ?_;try simp only[yG,Act.put]
     refine wpAnyH_done Je ?_ _;have O:=zh$ yT N D;clear E u j l D;go_wp2;go_ret;exact dN B$ yT Z.1 O
  .have HY:=zh$ aKm hl a3 Q hF;clear P hF;go_wp2;go_ret;exact uB HY$ yT Z.1 HB
def aL1 (a k)(h:∀z∈a,0<=z/\z<=4294967295):∀z∈aP a k,0<=z/\z<=4294967295:=by
 intro z b;obtain⟨i,hi,rfl⟩:=List.mem_map.1 b;split
 .have f:i<a.length:=by simpa using hi
  have:=h a[i] (List.getElem_mem f);simpa[xB,f]using this
 .omega
def aOn (pc b p a rg a1 a2 a3 n1 c1 n2 c2 n3 c3 ra rn rc w)(h:IS w (some$ qR b p) 8 a rg)(P:0<=pc)(Q:pc<=4294967295)(F:∀z∈rg,0<=z/\z<=4294967295):
 qC 89 #[.agg #[qI pc,qS (some$ qR b p) 8 a],.agg$ qV a1 n1 c1 a2 n2 c2 a3 n3 c3,qS ra rn rc] w λe w'=>∃g,w.heap.size<=g/\e=.returned (.pointer$ qP g)/\Pr w' g pc rg (qS a1 n1 c1) (qS a2 n2 c2) (qS a3 n3 c3) (qS ra rn rc)/\qY w w':=by
 let⟨W,d⟩:=aN$ ((w.alloc$ .cells #[qI pc,qS (some ⟨b,p,none⟩) 8 a] 38).alloc$ .cells (qV a1 n1 c1 a2 n2 c2 a3 n3 c3) 39).alloc$ .cells #[.int .u32 pc,.int .u32 0,.int .u32 0,.int .u32 0,.int .u32 0,.int .u32 0,.int .u32 0,.int .u32 0,.int .u32 0,qS a1 n1 c1,qS a2 n2 c2,qS a3 n3 c3,qS ra rn rc] 152;have x:=h.1;have l:qY w W:=by rw[d];exact(bal.alloc Jb _).alloc Jc _
 have P0:Pr W (w.heap.size+1+1) pc (aP rg 0) (qS a1 n1 c1) (qS a2 n2 c2) (qS a3 n3 c3) (qS ra rn rc):=by
  refine⟨?_,by rw[qF];exact x,⟨P,Q⟩,aL1 rg 0 F⟩;rw[lB,x,d];have:=Blk.new ((w.alloc$ .cells #[qI pc,qS (qe b p) 8 a] 38).alloc$ .cells (qV a1 n1 c1 a2 n2 c2 a3 n3 c3) 39) #[.int .u32 pc,.int .u32 0,.int .u32 0,.int .u32 0,.int .u32 0,.int .u32 0,.int .u32 0,.int .u32 0,.int .u32 0,qS a1 n1 c1,qS a2 n2 c2,qS a3 n3 c3,qS ra rn rc] 152;simp only[xF]at this;exact this
 have M:=zh (show IntKind.u32.wrap pc=pc by rw[IntKind.wrap_u32];omega)
 delta qC;go_in
 go_wp2;rw[<-d];clear d;have H:=zh h;clear h;go_loopw [20] (λi wr=>∃k:Nat,k<=8/\i=qI k/\Pr wr (w.heap.size+1+1) pc (aP rg k) (qS a1 n1 c1) (qS a2 n2 c2) (qS a3 n3 c3) (qS ra rn rc)/\qY w wr) (qf 8)
 .exact⟨0,xC _,rfl,P0,l⟩
 .obtain⟨k,V,rfl,j,q⟩:=hrel;clear P0 l;by_cases f:k<8
  .have E:(k:Int)<8:=J
   have N:=(H.bw q).at k f;have s:=F (rg.getD k 0) (by rw[xB,xN$ show k<rg.length from J];exact List.getElem_mem _);have K:=j.reg k f;have O:=j.blk.frozen$ 1+k;have t:=j.setreg k f (rg.getD k 0) s;rw[qE rg k J]at t;have D:qY w (wr.setCell (qR (w.heap.size+1+1)$ 1+k)$ .int .u32$ rg.getD k 0):=q.setCell Jd _;obtain⟨A,B⟩:=s;generalize rg.getD k 0=z at *;generalize (aP rg k).getD k 0=y at *;have I:=zh t;have U:=zh D;clear t D j q;go_wp2
   go_roundw
   .exact⟨k+1,J,by go_num,I,U⟩
   .simp[qf,intOf];omega
  .have e:Zh (k=8):=by show k=8;omega
   have u:=zh j;clear j;go_wp2;go_ret;exact⟨_,J,rfl,by have:=u.o;rw[e.o,<-x,qG]at this;exact this,q⟩
def aVt {rg:qi}(h:rg.length=8):∃l t j f u x q y,rg=[l,t,j,f,u,x,q,y]:=by
 match rg,h with
 | [l,t,j,f,u,x,q,y],_=>exact⟨l,t,j,f,u,x,q,y,rfl⟩
def RowI.oi {w:qw}{zs:qi}(h:RowI w g zs)(j:base<=g)(f:zs.length<=maxLen)(hz:∀z∈zs,wfi z):OI w base (qS (qP g) zs.length zs.length) zs:=
 ⟨⟨Jb,.inr ⟨g,zs.length,(zs.map$ Value.int .i64).toArray,rfl,j,h,aO,f,Jb,by simp[xG]⟩⟩,hz⟩
abbrev z8i:Array Value:=#[qI 0,qI 0,qI 0,qI 0,qI 0,qI 0,qI 0,qI 0]
abbrev z8u (a b c d e f g h:Int):Value:=.agg #[.int .u32 a,.int .u32 b,.int .u32 c,.int .u32 d,.int .u32 e,.int .u32 f,.int .u32 g,.int .u32 h]
def aU2 {rg:qi}{s1 s2 s3 s4:Value}(w)(h:Pr w g pc rg s1 s2 s3 s4):
 qC 91 #[.pointer$ qP g] w (dV w pc 8 rg):=by
 have hc:=h.pc;have p0:=h.pcw;have F:=h.blk.lt;have E:=h.len;have P:=zh h.rgw;let⟨e,s,A,B,G,S,X,Z,b⟩:=aVt h.len;have D:∀w:World,(Instr.makeSlice 25 (qI 8)$ qI 8).run prog w=.ok (qS (qP w.heap.size) 8 8) (w.alloc$ .cells z8i 3):=λw=>Je
 have Q:Zh (∀k:Nat,k<8->∀w:World,(Instr.index 150 (z8u e s A B G S X Z)$ qI k).run prog w=.ok (.int .u32$ rg.getD k 0) w):=by
  intro k U w;subst b;rcases(show k=0\/k=1\/k=2\/k=3\/k=4\/k=5\/k=6\/k=7 from J)with rfl|rfl|rfl|rfl|rfl|rfl|rfl|rfl<;>kernel_rfl
 have V:Zh (∀W,qY w W->qN W g 1=some (.int .u32 e)/\qN W g 2=some (.int .u32 s)/\qN W g 3=some (.int .u32 A)/\qN W g 4=some (.int .u32 B)/\qN W g 5=some (.int .u32 G)/\qN W g 6=some (.int .u32 S)/\qN W g 7=some (.int .u32 X)/\qN W g 8=some (.int .u32 Z)):=λW f=>by
  have:=λi hi=>(h.bw f).reg i hi;subst b;exact⟨this 0 J,this 1 J,this 2 J,this 3 J,this 4 J,this 5 J,this 6 J,this 7 J⟩
 clear h b;have l2:g<w.heap.size+1+1:=J
 have l3:g<w.heap.size+1+1+1:=J
 have m1:w.heap.size+1≠w.heap.size+1+1:=J
 have m2:=m1.symm;have m3:w.heap.size<w.heap.size+1:=J
 have m4:w.heap.size<w.heap.size+1+1:=J
 delta qC;go_in
 go_wp2
 go_region
 let⟨W,a⟩:=aN$ (((w.alloc$ .cells #[qI 0,qS none 0 0] 38).alloc$ .cells z8i 3).alloc$ .cells #[qI pc,qS (qP$ w.heap.size+1) 8 8] 38).drew;have f:qY w W:=by rw[a];exact((bal.alloc Jb _).alloc Jc _).drew
 have H:=((Blk.new w #[qI 0,qS none 0 0] 38).alloc$ .cells z8i 3).alloc$ .cells #[qI pc,qS (qP$ w.heap.size+1) 8 8] 38;have t:=(Blk.new (w.alloc$ .cells #[qI 0,qS none 0 0] 38) z8i 3).alloc$ .cells #[qI pc,qS (qP$ w.heap.size+1) 8 8] 38;have q:=Blk.new ((w.alloc$ .cells #[qI 0,qS none 0 0] 38).alloc$ .cells z8i 3) #[qI pc,qS (qP$ w.heap.size+1) 8 8] 38;simp only[xF]at t q;have O:Blk W w.heap.size #[qI 0,qS none 0 0] 38:=by rw[a];exact H
 have N:Blk W (w.heap.size+1+1) #[qI pc,qS (qP$ w.heap.size+1) 8 8] 38:=by rw[a];exact q
 have K:RowI W (w.heap.size+1) (aP rg 0):=by rw[a,lB,E];exact t
 rw[<-a];clear a H t q D hc;generalize w.heap.size+1+1=C at *;generalize w.heap.size+1=R at *;rotate_left;let⟨W,a⟩:=aN$ (((w.alloc$ .cells #[qI 0,qS none 0 0] 38).alloc$ .cells #[qI pc,qS (qP$ w.heap.size+1+1) 8 8] 38).alloc$ .cells z8i 3).drew;have f:qY w W:=by rw[a];exact((bal.alloc Jb _).alloc Jc _).drew
 have H:=((Blk.new w #[qI 0,qS none 0 0] 38).alloc$ .cells #[qI pc,qS (qP$ w.heap.size+1+1) 8 8] 38).alloc$ .cells z8i 3;have t:=(Blk.new (qm w #[qI 0,qS none 0 0] 38) #[qI pc,qS (qP$ w.heap.size+1+1) 8 8] 38).alloc$ .cells z8i 3;have q:=Blk.new (qm (qm w #[qI 0,qS none 0 0] 38) #[qI pc,qS (qP$ w.heap.size+1+1) 8 8] 38) z8i 3;simp only[xF]at t q;have O:Blk W w.heap.size #[qI 0,qS none 0 0] 38:=by rw[a];exact H
 have N:Blk W (w.heap.size+1) #[qI pc,qS (qP$ w.heap.size+1+1) 8 8] 38:=by rw[a];exact t
 have K:RowI W (w.heap.size+1+1) (aP rg 0):=by rw[a,lB,E];exact q
 rw[<-a];clear a H t q D hc;generalize w.heap.size+1+1=R at *;generalize w.heap.size+1=C at *;rotate_left
 all_goals
  have x0:=V W f;go_wp2;go_loopw [17] (λi wr=>∃k:Nat,k<=8/\i=qI k/\RowI wr R (aP rg k)/\Blk wr C #[qI pc,qS (qP R) 8 8] 38/\Blk wr w.heap.size #[qI 0,qS none 0 0] 38/\qY w wr) (qf 8)
  .exact⟨0,xC _,rfl,K,N,O,f⟩
  .obtain⟨k,U,rfl,l,I,x,f⟩:=hrel;clear K N O x0;have q1:=I.two';by_cases F:k<8
   .have hi:=Q k F;have u:(k:Int)<8:=J
    have Y:=l.cell k (by rw[qF];omega);have a0:=l.frozen k;have M:=l.set k$ rg.getD k 0;rw[qE rg k J]at M;have d:=P.o (rg.getD k 0) (by rw[xB,xN$ show k<rg.length from J];exact List.getElem_mem _);obtain⟨u0,u1⟩:=d;generalize rg.getD k 0=z at *;have j:=zh$ xA M$ xA (I.other (qR R k) (qI z) Jd)$ xA (x.other (qR R k) (qI z) Jd)$ f.setCell (p:=(qR R k)) Jd$ qI z;generalize (aP rg k).getD k 0=y at *;clear M l I x f;go_wp2
    go_roundw
    .exact⟨k+1,J,by go_num,j.1,j.2.1,j.2.2.1,j.2.2.2⟩
    .simp[qf,intOf];omega
   .obtain rfl:k=8:=J
    have u:¬((8:Nat):Int)<8:=J
    have z0:=x.two';let⟨y0,y1,y2⟩:=Blk.two'$ (x.set 0$ qI pc).set 1$ qS (qP R) 8 8;rw[show aP rg 8=rg by rw[<-E,qG]]at l;have j:=zh (xA (RowI.oi (base:=w.heap.size) (Blk.other (Blk.other l (qh w 0) (qI pc) Jd) (qh w 1) (qS (qP R) 8 8) Jd) J (by rw[E];decide) (λz d=>by have:=P.o z d;unfold wfi;omega))$ (f.setCell (p:=(qh w 0)) aO$ qI pc).setCell (p:=(qh w 1)) aO$ qS (qP R) 8 8);rw[E]at j;clear l I x f;go_wp2;exact bodyPost_ret (v:=.agg #[qI pc,qS (qP R) 8 8]) (by simp[results,results91,go_sem,y0,y1]) rfl ⟨_,_,rfl,j.o.1,j.o.2⟩
def wU {W:qw}{E:TypeId}{D:Array _}{y:Option _}{x u t f q l j:Value}(kb:Blk W G #[v0,v1,v2,v3,v4,v5,v6,v7,x,u,t,f,q,l,j] 43)(h:a.tmps[k]?.getD undef=.pointer (qP G)):(execOp a.eval { dst:=d,op:=Op.load 43$ Operand.tmp k,type:=E,pos:=p,after:=D,guard:=y }).run prog W=.ok (.value$ .agg #[v0,v1,v2,v3,v4,v5,v6,v7,x,u,t,f,q,l,j]) W:=by
 have:=kb.mc;go_simp
def aO6 {W:qw}{l:TypeId}{j:Array _}{f:Option _}(kb:Blk W G #[v0,v1,v2,v3,v4,v5] 65)(h:a.tmps[k]?.getD undef=.pointer (qP G)):(execOp a.eval { dst:=d,op:=Op.load 65$ Operand.tmp k,type:=l,pos:=p,after:=j,guard:=f }).run prog W=.ok (.value$ .agg #[v0,v1,v2,v3,v4,v5]) W:=by
 have:=kb.ly6;go_simp
def aTd {W:qw}{u:TypeId}{q:Array _}{f:Option _}(kb:Blk W G #[v0,v1,v2,v3] 132)(h:a.tmps[k]?.getD undef=.pointer (qP G)):(execOp a.eval { dst:=d,op:=Op.load 132$ Operand.tmp k,type:=u,pos:=p,after:=q,guard:=f }).run prog W=.ok (.value$ .agg #[v0,v1,v2,v3]) W:=by
 have l:=kb.cell 0;have t:=kb.cell 1;have j:=kb.cell 2;have x:=kb.cell 3;simp at l t j x;go_simp
def aTc {W:qw}{l:TypeId}{j:Array _}{f:Option _}(q:W.cell? ⟨G,i,none⟩=some v)(h:a.tmps[k]?.getD undef=.pointer (some ⟨G,i,none⟩)):(execOp a.eval { dst:=d,op:=Op.load 40$ Operand.tmp k,type:=l,pos:=p,after:=j,guard:=f }).run prog W=.ok (.value v) W:=by
 go_simp
def aVw {W:qw}{l:TypeId}{j:Array _}{f:Option _}(q:W.cell? ⟨G,i,none⟩=some v)(h:a.tmps[k]?.getD undef=.pointer (some ⟨G,i,none⟩)):(execOp a.eval { dst:=d,op:=Op.load 4$ Operand.tmp k,type:=l,pos:=p,after:=j,guard:=f }).run prog W=.ok (.value v) W:=by
 go_simp
end Go.Proofs.YtdjdcdnjjmjonaaGreat
namespace Go.Proofs.YtdjdcdnjjmjonaaGreat
open Go.ChangeShapes Go.WideShapes Go.ChangeAt Go.RowKit
variable {z:Int}
def own:ownKnob Tryz.prog.godebug=none:=Je
def aR3:laidOutB Tryz.prog=true:=Je
def aU4 (h:(Lit.int .u8 z).wf=true):0<=z/\z<=255:=by
 simp[Lit.wf,IntKind.min,IntKind.max,IntKind.signed,IntKind.bits]at h;omega
def wf_i64 (h:(Lit.int .i64 z).wf=true):-9223372036854775808<=z/\z<=9223372036854775807:=by
 simp[Lit.wf,IntKind.min,IntKind.max,IntKind.signed,IntKind.bits]at h;omega
set_option maxRecDepth 100000 in
def mG {H:Type}{enc:TypeId×Value->H}{w:qw}{base:Nat}{u:Bool}{t:Nat}{cs:List Value}{x:DataW H×List MemPlace}
 (h:DataW.trod enc Tryz.prog w base (λ_=>true) u t 28 cs=some x):∃a n cap zs,cs=[qS a n cap]/\BS w a n cap zs:=by
 rcases open_ints Tryz.underlying28 Tryz.underlying5 Je h with⟨q,_⟩|⟨x,l,c,zs,q,_,F,K,e,_,f,y⟩
 .exact⟨none,0,0,[],q,rfl,Nat.zero_le _,Jb,λh=>absurd rfl h,aO⟩
 .simp at e;refine⟨some x,l,c,zs.take l,q,Jc,J,λz D=>aU4$ y z$ List.mem_of_mem_take D,λI=>?_,F⟩;obtain⟨b,d,g⟩:=x;have j:g=none:=by simpa[Addr.add]using World.cell?_spot$ f 0 J
  subst j;refine⟨b,d,rfl,λi hi=>?_⟩;have:=f i J
  have E:(Addr.add (qR b d) i)=(qR b$ d+i):=by
   simp only[Addr.add];split
   .next h=>subst h;rfl
   .rfl
  rw[E]at this;rw[this];simp[List.getD_eq_getElem?_getD,hi]
