import Derived.Test.YtdjdcdnjjmjonaaGreatR25
import Derived.Test.YtdjdcdnjjmjonaaGreatR26
set_option linter.all false
set_option maxHeartbeats 8000000
namespace Go.Proofs.YtdjdcdnjjmjonaaGreat
open Go.RowKit
open Go.Proofs.Tryz
set_option maxRecDepth 100000
variable {R base cap n rb:Nat}{S:Nat->Prop}{W X w:World}{cs:Array Value}{e:Ending}{pc:Int}{t0 t1 t2 u0 u1 v v1 v2 v3:Value}{x1 x2 x3 zs:List Int}
theorem jP {G:Nat}{t:TypeId}(h:OI W base v zs)(b:Blk W G cs t)(d:t≠3):v.ownBlock≠some G:=by
 obtain⟨p,⟨f,_⟩|⟨g,i,j,rfl,k,l,_⟩⟩:=h.1
 .rw[f];intro e;cases e
 .intro e;have a:some g=some G:=e;injection a with a
  subst a;unfold Blk at b
  grind
def kH (W:World)(R:Nat)(x y:Value):World:=(W.setCell ⟨R,0,none⟩ x).setCell ⟨R,1,none⟩ y
def gT (W:World)(R:Nat)(x y z:Value):World:=((W.setCell ⟨R,0,none⟩ x).setCell ⟨R,1,none⟩ y).setCell ⟨R,2,none⟩ z
theorem OI.set (h:OI w base (.slice (some ⟨rb,0,none⟩) n cap) zs)(i)(hi:i<n)(z)(hz:wfi z):OI (w.setCell ⟨rb,i,none⟩$ .int .i64 z) base (.slice (some ⟨rb,0,none⟩) n cap) (zs.set i z):=by
 obtain⟨x,⟨d,_⟩|⟨g,q,b,l,j,k,s,e,t,f⟩⟩:=h.1
 .cases d
 .injection l with a y p
  injection a with a
  injection a with a
  subst a p;refine⟨⟨Jb,.inr ⟨rb,cap,b.setIfInBounds i$ .int .i64 z,by grind,j,Blk.set (w:=w) k i$ .int .i64 z,by grind,e,by grind,?_⟩⟩,λu hu=>?_⟩
  .rw[List.length_set,Array.toList_setIfInBounds,List.map_set,<-f,List.take_set]
  .rcases List.mem_or_eq_of_mem_set hu with hu|rfl
   .exact h.2 u hu
   .exact hz
theorem aN6 {c:Value}(l:OI W base c zs)(b:cB W base v1 v2 v3 x1 x2 x3)(i:Blk W R #[u0,u1] 38)(f:Blk W (R+1) #[t0,t1,t2] 39)
 (d:Turn S w W) (x:w.heap.size<=R)
 (s:X=gT (kH W R (.int .i64 pc) c) (R+1) v1 v2 v3\/X=kH (gT W (R+1) v1 v2 v3) R (.int .i64 pc) c):
 (OI X base c zs/\cB X base v1 v2 v3 x1 x2 x3/\Turn S w X) /\
   X.cell? ⟨R,0,none⟩=some (.int .i64 pc)/\X.cell? ⟨R,1,none⟩=some c/\X.cell? ⟨R+1,0,none⟩=some v1/\X.cell? ⟨R+1,1,none⟩=some v2/\X.cell? ⟨R+1,2,none⟩=some v3:=by
 have p:Turn (λj=>j=R\/j=R+1) W X/\Blk X R #[.int .i64 pc,c] 38/\Blk X (R+1) #[v1,v2,v3] 39:=by
  rcases s with rfl|rfl
  .refine⟨(((aK _ _ _ _).trans$ aK _ _ _ _).mono λk e=>Or.inl e).trans$ (((aK _ _ _ _).trans$ aK _ _ _ _).trans$ aK _ _ _ _).mono λk e=>Or.inr e,?_,?_⟩
   .have a:=((((i.set 0$ .int .i64 pc).set 1 c).other ⟨R+1,0,none⟩ v1 (by grind)).other ⟨R+1,1,none⟩ v2 (by grind)).other ⟨R+1,2,none⟩ v3 (by grind);simpa[kH,gT]using a
   .have a:=((((f.other ⟨R,0,none⟩ (.int .i64 pc) (by grind)).other ⟨R,1,none⟩ c (by grind)).set 0 v1).set 1 v2).set 2 v3;simpa[kH,gT]using a
  .refine⟨((((aK _ _ _ _).trans$ aK _ _ _ _).trans$ aK _ _ _ _).mono λk e=>Or.inr e).trans$ ((aK _ _ _ _).trans$ aK _ _ _ _).mono λk e=>Or.inl e,?_,?_⟩
   .have a:=((((i.other ⟨R+1,0,none⟩ v1 (by grind)).other ⟨R+1,1,none⟩ v2 (by grind)).other ⟨R+1,2,none⟩ v3 (by grind)).set 0$ .int .i64 pc).set 1 c;simpa[kH,gT]using a
   .have a:=((((f.set 0 v1).set 1 v2).set 2 v3).other ⟨R,0,none⟩ (.int .i64 pc) (by grind)).other ⟨R,1,none⟩ c (by grind);simpa[kH,gT]using a
 obtain⟨T,a,y⟩:=p
 have q:∀{v:Value}{u:List Int},OB W base v u->∀k,v.ownBlock=some k->¬(k=R\/k=R+1):=λh k g e=>by
  rcases e with e|e
  .exact rB h i Ja (by grind)
  .exact rB h f Ja (by grind)
 have t:∀k,c.ownBlock=some k->¬(k=R\/k=R+1):=λk g e=>by
  rcases e with e|e
  .exact jP l i Ja (by grind)
  .exact jP l f Ja (by grind)
 refine⟨⟨aV T l t,⟨aP T b.1$ q b.1,aP T b.2.1$ q b.2.1,aP T b.2.2.1$ q b.2.2.1,b.2.2.2⟩,⟨T.os.trans d.os,T.tape.trans d.tape,T.output.trans d.output,Nat.le_trans d.size T.size,λk g hs=>(T.block k (Nat.lt_of_lt_of_le g d.size) (λe=>by grind)).trans$ d.block k g hs⟩⟩,?_,?_,?_,?_,?_⟩
 .rw[a.cell];rfl
 .rw[a.cell];rfl
 .rw[y.cell];rfl
 .rw[y.cell];rfl
 .rw[y.cell];rfl
def aTx {w':World}(h:Turn S w w'):Turn S w w'.drew:=⟨h.os,h.tape,h.output,h.size,h.block⟩
def gI {c:Value}(d:OI W base c zs)(b:cB W base v1 v2 v3 x1 x2 x3)(j:Blk W R #[u0,u1] 38)(g:Blk W (R+1) #[t0,t1,t2] 39)
 (i:Turn S w W) (f:w.heap.size<=R)
 (a:X=gT (kH W R (.int .i64 pc) c) (R+1) v1 v2 v3\/X=kH (gT W (R+1) v1 v2 v3) R (.int .i64 pc) c):
 (OI X.drew base c zs/\cB X.drew base v1 v2 v3 x1 x2 x3/\Turn S w X.drew) /\
   X.drew.cell? ⟨R,0,none⟩=some (.int .i64 pc)/\X.drew.cell? ⟨R,1,none⟩=some c/\X.drew.cell? ⟨R+1,0,none⟩=some v1/\X.drew.cell? ⟨R+1,1,none⟩=some v2/\X.drew.cell? ⟨R+1,2,none⟩=some v3:=by
 let⟨⟨e,k,l⟩,p⟩:=aN6 d b j g i f a;exact⟨⟨e,k,aTx l⟩,p⟩
def OI.blk (h:OI w base (.slice (some ⟨rb,0,none⟩) n cap) zs):∃a,Blk w rb a 3:=by
 obtain⟨k,⟨d,_⟩|⟨g,i,a,f,j,e,_⟩⟩:=h.1
 .cases d
 .injection f with b l p
  injection b with b
  injection b with b
  subst b;exact⟨a,e⟩
abbrev zCo:Array Value:=#[qI 0,qS none 0 0]
abbrev zMe:Array Value:=qV none 0 0 none 0 0 none 0 0
def MmP (w:qw)(base:Nat)(pc:Int)(c:Value)(r:Res)(e:Ending)(W:qw):Prop:=
 ∃a1 m1 d1 a2 m2 d2 a3 m3 d3,e=.returned (.tuple #[.agg #[qI pc,c],.agg$ qV a1 m1 d1 a2 m2 d2 a3 m3 d3,qI$ if r.did=0 then 0 else r.num])/\OI W base c r.rg/\cB W base (qS a1 m1 d1) (qS a2 m2 d2) (qS a3 m3 d3) r.x1 r.x2 r.x3/\Turn (λj=>c.ownBlock=some j) w W
def aTs {b:Bool}(h:e=.returned (.bool b)):∃A,A=b/\e=.returned (.bool A):=⟨b,rfl,h⟩
theorem aU9 {R:Int×Int}(h:e=.returned (.tuple #[qI R.1,qI R.2])):∃v f,R=(v,f)/\e=.returned (.tuple #[qI v,qI f]):=by grind
def sMm (k:Nat)(hk:k<6)(C op d a i pc rb cp rg g1 g2 g3 ra c1 c2 c3 rc base w)(an:op=(k:Int)+14)(ho:OI w base (qS (qP rb) 8 cp) rg)(hm:cB w base (qS g1 C.n1 c1) (qS g2 C.n2 c2) (qS g3 C.n3 c3) C.x1 C.x2 C.x3)(b6:RS w ra C.rn rc C.rs)(hw:∀z∈rg,0<=z/\z<=4294967295)(hn:C.n1+C.n2+C.n3<=1048576)(hb:base<=w.heap.size)(d0:0<=d)(d1:d<=7)(av:0<=a)(aw:a<=7)(i0:0<=i)(i1:i<=65535):
 qC 129 #[.agg #[qI pc,qS (qP rb) 8 cp],.agg$ qV g1 C.n1 c1 g2 C.n2 c2 g3 C.n3 c3,qS ra C.rn rc,.agg$ qW op d a i] w (MmP w base pc (qS (qP rb) 8 cp)$ opz C op d a i pc rg):=by
 obtain⟨W,hW⟩:=aO$ ((((w.alloc$ .cells #[qI pc,qS (qP rb) 8 cp] 38).alloc$ .cells (qV g1 C.n1 c1 g2 C.n2 c2 g3 C.n3 c3) 39).alloc$ .cells (qW op d a i) 186).alloc$ .cells zCo 38).alloc$ .cells zMe 39;have aa:qY w W:=by rw[hW];exact(((bal.alloc Jb _).alloc Jc _).alloc Jc _).alloc Jc _
 have k0:=((((Blk.new w #[qI pc,qS (qP rb) 8 cp] 38).alloc$ .cells (qV g1 C.n1 c1 g2 C.n2 c2 g3 C.n3 c3) 39).alloc$ .cells (qW op d a i) 186).alloc$ .cells zCo 38).alloc$ .cells zMe 39;have k1:=(((Blk.new (w.alloc$ .cells #[qI pc,qS (qP rb) 8 cp] 38) (qV g1 C.n1 c1 g2 C.n2 c2 g3 C.n3 c3) 39).alloc$ .cells (qW op d a i) 186).alloc$ .cells zCo 38).alloc$ .cells zMe 39;have k2:=((Blk.new ((w.alloc$ .cells #[qI pc,qS (qP rb) 8 cp] 38).alloc$ .cells (qV g1 C.n1 c1 g2 C.n2 c2 g3 C.n3 c3) 39) (qW op d a i) 186).alloc$ .cells zCo 38).alloc$ .cells zMe 39;have k3:=(Blk.new (((w.alloc$ .cells #[qI pc,qS (qP rb) 8 cp] 38).alloc$ .cells (qV g1 C.n1 c1 g2 C.n2 c2 g3 C.n3 c3) 39).alloc$ .cells (qW op d a i) 186) zCo 38).alloc$ .cells zMe 39;have k4:=Blk.new ((((w.alloc$ .cells #[qI pc,qS (qP rb) 8 cp] 38).alloc$ .cells (qV g1 C.n1 c1 g2 C.n2 c2 g3 C.n3 c3) 39).alloc$ .cells (qW op d a i) 186).alloc$ .cells zCo 38) zMe 39;simp only[xF]at k1 k2 k3 k4;rw[<-hW]at k0 k1 k2 k3 k4;have O0:=ho.bw aa;have M0:=aY hm aa;have R0:=b6.bw aa;have:=ho.is.1;have hg:∀j:Int,0<=j->j<=7->0<=rg.getD j.toNat 0/\rg.getD j.toNat 0<=4294967295:=λj h0 h7=>hw _ (by rw[xB,xN$ show j.toNat<rg.length from J];exact List.getElem_mem _);obtain⟨bo,bp⟩:=hg a av aw;obtain⟨ar,au⟩:=hg d d0 d1;have ca:=O0.is.at a.toNat J;have cd:=O0.is.at d.toNat J;simp only[Nat.zero_add]at ca cd;obtain⟨bm,bn⟩:=lE i i0 i1;obtain⟨r,A⟩:=aO$ opz C op d a i pc rg;rw[<-A];have HR:=zh A;have ah:=zh$ show(rg.getD a.toNat 0+eA i)%4294967296=atz rg a i from rfl;have b4:=zh λw=>lU i w i0 i1;have u0:0<=atz rg a i/\atz rg a i<=4294967295:=by unfold atz m32;omega
 obtain⟨z,hz⟩:=aO$ atz rg a i;obtain⟨yd,ai⟩:=aO$ rg.getD d.toNat 0;have HL:Zh (∀s,ldz C pc rg d a i s=if C.al z s 1=true then if (C.rd z s).2=0 then C.go 0 0 (m32$ pc+4) (rg.set d.toNat (C.rd z s).1) else C.go 5 (C.rd z s).2 pc rg else C.go 5 5 pc rg):=λs=>by rw[hz];rfl
 have HS:Zh (∀s,stz C pc rg d a i s=if C.al z s 2=true then if (C.wr z s yd).2.2.2=0 then ⟨0,0,m32$ pc+4,rg,(C.wr z s yd).1,(C.wr z s yd).2.1,(C.wr z s yd).2.2.1⟩ else ⟨5,(C.wr z s yd).2.2.2,pc,rg,(C.wr z s yd).1,(C.wr z s yd).2.1,(C.wr z s yd).2.2.1⟩ else C.go 5 5 pc rg):=λs=>by rw[hz,ai];rfl
 rw[<-hz]at ah u0;rw[<-ai]at cd ar au;generalize rg.getD a.toNat 0=y at *;generalize eA i=x at *;have bb:=zh (show IntKind.i64.wrap (y+x)=y+x by rw[IntKind.wrap_i64];omega);have ap:=zh λw=>dQ (y+x) w ⟨J,J⟩;rw[ah.o]at ap;obtain⟨u0,u1⟩:=u0;have bh:=zh λs j w h=>qE ra C.rn rc C.rs z s j w h ⟨J,J⟩;have b5:=zh λs w O P=>sRd g1 g2 g3 C.n1 c1 C.n2 c2 C.n3 c3 C.x1 C.x2 z s w O P u0 u1;have ad:=zh λs w O P V=>sWr g1 g2 g3 C.n1 c1 C.n2 c2 C.n3 c3 C.x1 C.x2 C.x3 z s yd w O P V hn ⟨ar,au⟩ u0 u1;have:a<8:=J
 have:d<8:=J
 have af:=zh λs=>wI C.n1 C.n2 C.n3 C.x1 C.x2 z s hm.1.2 hm.2.1.2;clear A hz ai hg ah;rcases(show k=0\/k=1\/k=2\/k=3\/k=4\/k=5 from J)with rfl|rfl|rfl|rfl|rfl|rfl
 all_goals
  simp at an;subst an;have ax:=k0.lt;have bi:=k1.lt;have be:=k2.lt;have ba:=k3.lt;have b0:=k4.lt;obtain⟨e1,e2,e3⟩:=k0.two';have f1:=k1.three;have j1:=k2.four';go_enter func129,ntmps129
  go_wp2_with fail
  rw[<-hW];clear hW
  go_region_held3 (λw'=>w'.cell? (qR w.heap.size 1)=some (qS (qP rb) 8 cp)/\w'.cell? (qR (w.heap.size+1+1) 2)=some (qI a)/\w'.cell? (qR (w.heap.size+1+1) 3)=some (qI i)/\w'.cell? (qR rb a.toNat)=some (qI y)) (go_keep)
   (first
     | (go_at_call 132;refine(b4.o _).mono ?_;rintro e w1 ⟨rfl,rfl⟩)
     | (go_at_call 116;rw[bb.o];refine(ap.o _).mono ?_;rintro e w1 ⟨rfl,rfl⟩))
  all_goals
   have KX:=Blk.new W (qT 1 2 4) 3;go_wp2_with fail
   have hV:qY W (W.alloc$ .cells (qT 1 2 4) 3).drew:=bal.drew;apply(bh.o _ _ _ (by exact R0.bw hV)).mono;rintro e w1 ⟨he,aj⟩;obtain⟨AL,aq,rfl⟩:=aTs he;have b1:=hV.trans$ aj.mono hV.size;have D:=k0.bw b1;have H:=k1.bw b1;have r2:=k2.bw b1;have p:=k3.bw b1;have l:=k4.bw b1;have g:=aY M0 b1;have E:=O0.bw b1;have B:Turn (λj=>(qS (qP rb) 8 cp).ownBlock=some j) w w1:=aG$ aa.trans$ b1.mono aa.size;have N:=(b1.cell$ xD W _ cd).trans cd;clear aj hV b1 k0 k1 k2 k3 k4 M0 O0 aa e1 e2 e3 f1 j1 ca KX R0 cd ax bi be ba b0;have A:=HR.o;simp only[opz,Int.reduceEq,reduceIte]at A;first|rw[HL.o]at A|rw[HS.o]at A
   unfold Cy.al at A;rw[<-aq]at A;clear aq HR HL HS he;cases AL
   .obtain rfl:r=C.go 5 5 pc rg:=A;obtain⟨S,a0,a1,a2,a3,a4⟩:=gI (pc:=pc) E g p l B J$ Or.inl rfl;obtain⟨X,a5,a6,a7,a8,a9⟩:=gI (pc:=pc) E g p l B J$ Or.inr rfl;simp only[kH,gT]at S a0 a1 a2 a3 a4 X a5 a6 a7 a8 a9;have M:=zh S;have K:=zh X;have t1:=D.two';have s1:=H.three;have z1:=p.two';have z4:=l.three;clear S X;go_wp2
    go_region
    all_goals
     go_wp2;exact bodyPost_ret (v:=.tuple #[.agg #[qI pc,qS (qP rb) 8 cp],.agg$ qV g1 C.n1 c1 g2 C.n2 c2 g3 C.n3 c3,qI 5]) (by first|(simp[results,results129,go_sem,a0,a1,a2,a3,a4];done)|(simp[results,results129,go_sem,a5,a6,a7,a8,a9];done)) rfl ⟨_,_,_,_,_,_,_,_,_,rfl,by first|exact M.o.1|exact K.o.1,by first|exact M.o.2.1|exact K.o.2.1,by first|exact M.o.2.2|exact K.o.2.2⟩
   .have HR:=zh A;clear A;have t1:=D.two';have s1:=H.three;have l1:=r2.four';go_wp2_with fail
    first
    | (go_at_call 126
       apply(b5.o _ _ (by exact g.1.bs) (by exact g.2.1.bs)).mono;rintro e I ⟨he,b⟩;obtain⟨v,f,hR,rfl⟩:=aU9 he;have A:=HR.o;unfold Cy.rd at A;rw[hR]at A;dsimp only at A;have hv:0<=v/\v<=4294967295:=by first|(have q:=af.o 1;rw[hR]at q;exact q)|(have q:=af.o 2;rw[hR]at q;exact q)|(have q:=af.o 4;rw[hR]at q;exact q)
       replace D:=D.bw b;replace H:=H.bw b;replace r2:=r2.bw b;replace p:=p.bw b;replace l:=l.bw b;replace g:=aY g b;replace E:=E.bw b;replace B:=B.trans$ aG b;replace N:=(b.cell$ xD w1 _ N).trans N;clear b s1 t1 l1 HR he hR;by_cases hq:f=0
       .subst hq;obtain rfl:r=C.go 0 0 (m32$ pc+4) (rg.set d.toNat v):=A;obtain⟨bl,kc⟩:=E.blk;have:=kc.frozen d.toNat;obtain⟨v0,v1⟩:=hv;replace E:=E.set d.toNat J v ⟨J,J⟩;have U:Turn (λj=>j=rb) I (I.setCell (qR rb d.toNat)$ qI v):=aK _ _ _ _;replace B:=B.trans (U.mono (λj e=>by have e':j=rb:=e;show some rb=some j;rw[e']));have nb:∀{u:Value}{ys:qi},OB I base u ys->∀k,u.ownBlock=some k->¬(k=rb):=λh k hk e=>rB h kc Ja (by rw[hk,e]);replace g:cB (I.setCell (qR rb d.toNat)$ qI v) base (qS g1 C.n1 c1) (qS g2 C.n2 c2) (qS g3 C.n3 c3) C.x1 C.x2 C.x3:=⟨aP U g.1$ nb g.1,aP U g.2.1$ nb g.2.1,aP U g.2.2.1$ nb g.2.2.1,g.2.2.2⟩
        have nr:∀{G:Nat}{u:Array Value}{t:TypeId},Blk I G u t->t≠3->G≠rb:=λh ht e=>by
         subst e;unfold Blk at h kc;rw[kc]at h;simp at h;exact ht h.2.symm
        have b8:=nr D Ja;have b3:=nr H Ja;have:=nr r2 Ja;have bj:=nr p Ja;have bg:=nr l Ja;have t1:=D.two';have l1:=r2.four';replace D:=D.other (qR rb d.toNat) (qI v) b8;replace H:=H.other (qR rb d.toNat) (qI v) b3;replace p:=p.other (qR rb d.toNat) (qI v) bj;replace l:=l.other (qR rb d.toNat) (qI v) bg;clear U kc nb nr;obtain⟨S,a0,a1,a2,a3,a4⟩:=gI (pc:=pc) E g p l B J$ Or.inl rfl;obtain⟨X,a5,a6,a7,a8,a9⟩:=gI (pc:=pc) E g p l B J$ Or.inr rfl;simp only[kH,gT]at S a0 a1 a2 a3 a4 X a5 a6 a7 a8 a9;have M:=zh S;have K:=zh X;have t1:=D.two';have s1:=H.three;have z1:=p.two';have z4:=l.three;clear S X;go_wp2
        go_region
        all_goals
         go_wp2;exact bodyPost_ret (v:=.tuple #[.agg #[qI pc,qS (qP rb) 8 cp],.agg$ qV g1 C.n1 c1 g2 C.n2 c2 g3 C.n3 c3,qI 0]) (by first|(simp[results,results129,go_sem,a0,a1,a2,a3,a4];done)|(simp[results,results129,go_sem,a5,a6,a7,a8,a9];done)) rfl ⟨_,_,_,_,_,_,_,_,_,rfl,by first|exact M.o.1|exact K.o.1,by first|exact M.o.2.1|exact K.o.2.1,by first|exact M.o.2.2|exact K.o.2.2⟩
       .have bk:(f==0)=false:=by simpa using hq
        obtain rfl:r=C.go 5 f pc rg:=by simp[A,hq]
        clear hq A;obtain⟨S,a0,a1,a2,a3,a4⟩:=gI (pc:=pc) E g p l B J$ Or.inl rfl;obtain⟨X,a5,a6,a7,a8,a9⟩:=gI (pc:=pc) E g p l B J$ Or.inr rfl;simp only[kH,gT]at S a0 a1 a2 a3 a4 X a5 a6 a7 a8 a9;have M:=zh S;have K:=zh X;have t1:=D.two';have s1:=H.three;have z1:=p.two';have z4:=l.three;clear S X;go_wp2
        go_region
        all_goals
         go_wp2;exact bodyPost_ret (v:=.tuple #[.agg #[qI pc,qS (qP rb) 8 cp],.agg$ qV g1 C.n1 c1 g2 C.n2 c2 g3 C.n3 c3,qI f]) (by first|(simp[results,results129,go_sem,a0,a1,a2,a3,a4];done)|(simp[results,results129,go_sem,a5,a6,a7,a8,a9];done)) rfl ⟨_,_,_,_,_,_,_,_,_,rfl,by first|exact M.o.1|exact K.o.1,by first|exact M.o.2.1|exact K.o.2.1,by first|exact M.o.2.2|exact K.o.2.2⟩
      )
    | (have A:=HR.o
       first
       | (obtain⟨Q,hQ⟩:=aO$ C.wr z 1 yd;rw[<-hQ]at A;have HW:=ad.o 1;unfold Cy.wr at hQ;rw[<-hQ]at HW)
       | (obtain⟨Q,hQ⟩:=aO$ C.wr z 2 yd;rw[<-hQ]at A;have HW:=ad.o 2;unfold Cy.wr at hQ;rw[<-hQ]at HW)
       | (obtain⟨Q,hQ⟩:=aO$ C.wr z 4 yd;rw[<-hQ]at A;have HW:=ad.o 4;unfold Cy.wr at hQ;rw[<-hQ]at HW)
       obtain⟨y1,y2,y3,f⟩:=Q;dsimp only at A;replace HW:=zh HW;have HX:Zh ((if r.did=0 then 0 else r.num)=f/\r.rg=rg/\r.x1=y1/\r.x2=y2/\r.x3=y3):=by by_cases hq:f=0<;>simp[A,hq,Zh]
       clear A HR hQ;have:=D.lt;have:=H.lt;have:=r2.lt;have:=l.lt;have az:=xD w1 _ N;dsimp only at az;have am:w.heap.size≠w1.heap.size:=J
       have b9:w.heap.size+1≠w1.heap.size:=J
       have ay:w.heap.size+1+1≠w1.heap.size:=J
       have ao:w.heap.size+1+1+1≠w1.heap.size:=J
       have ak:w.heap.size+1+1+1+1≠w1.heap.size:=J
       have bd:rb≠w1.heap.size:=J
       have:=am.symm;have:=b9.symm;have:=ay.symm;have:=ao.symm;have:=ak.symm;have:=bd.symm;have hA:qY w1 (w1.alloc$ .cells zMe 39):=bal;have kN:=Blk.new w1 zMe 39;have N1:=(g.1.mono$ xC _).bw hA;have N2:=(g.2.1.mono$ xC _).bw hA;have N3:=(g.2.2.1.mono$ xC _).bw hA
       go_region_held3 (λw'=>w'.cell? (qR w.heap.size 1)=some (qS (qP rb) 8 cp)/\w'.cell? (qR (w.heap.size+1) 0)=some (qS g1 C.n1 c1)/\w'.cell? (qR (w.heap.size+1) 1)=some (qS g2 C.n2 c2)/\w'.cell? (qR (w.heap.size+1) 2)=some (qS g3 C.n3 c3)/\w'.cell? (qR (w.heap.size+1+1) 1)=some (qI d)/\w'.cell? (qR rb d.toNat)=some (qI yd)) (go_keep)
        (first
          | (go_at_call 173;refine(HW.o _ (by exact g.1.mono$ xC _) (by exact g.2.1.mono$ xC _) (by exact g.2.2.1.mono$ xC _)).mono ?_;rintro e I ⟨e1,m1,O,e2,Z,P,e3,m3,V,rfl,MW,b⟩;(try replace b:=aU b);have b7:=True.intro;have ab:cB I w1.heap.size (qS e1 m1 O) (qS e2 Z P) (qS e3 m3 V) y1 y2 y3:=MW;have t1:=(D.bw b).two';have s1:=(H.bw b).three;have l1:=(r2.bw b).four';have ac:=(b.cell$ xD w1 _ N).trans N;have bf:=(D.bw b).lt;have b2:=(H.bw b).lt;have bc:=(r2.bw b).lt;have ag:=xD I _ ac;dsimp only at ag)
          | (go_at_call 173;refine(HW.o _ (by exact N1) (by exact N2) (by exact N3)).mono ?_;rintro e I ⟨e1,m1,O,e2,Z,P,e3,m3,V,rfl,MW,b⟩;(try replace b:=aU b);have isB:=True.intro;have ab:cB I (w1.heap.size+1) (qS e1 m1 O) (qS e2 Z P) (qS e3 m3 V) y1 y2 y3:=(by simpa only[heap_drew,xF]using MW);have ae:=kN.bw b;obtain⟨v1,v2,v3,v4⟩:=ae.three;replace b:=hA.trans$ b.mono hA.size;have t1:=(D.bw b).two';have s1:=(H.bw b).three;have l1:=(r2.bw b).four';have ac:=(b.cell$ xD w1 _ N).trans N;have bf:=(D.bw b).lt;have b2:=(H.bw b).lt;have bc:=(r2.bw b).lt;have ag:=xD I _ ac;dsimp only at ag))
       all_goals
        clear t1 s1 l1;replace D:=D.bw b;replace p:=p.bw b;replace l:=l.bw b;replace E:=E.bw b;replace B:=B.trans$ aG b;have:=b.size;clear g N1 N2 N3 H r2 b MW N ac;first
        | (clear b7
           have H:=Blk.new I (qV e1 m1 O e2 Z P e3 m3 V) 39;have Y:qY I (I.alloc$ .cells (qV e1 m1 O e2 Z P e3 m3 V) 39):=bal;have g:=fT (aY ab Y)$ show base<=w1.heap.size from J;replace D:=D.bw Y;replace p:=p.bw Y;replace l:=l.bw Y;replace E:=E.bw Y;replace B:=B.trans$ aG Y;clear ab Y;obtain⟨S,a0,a1,a2,a3,a4⟩:=gI (pc:=pc) E g p l B J$ Or.inl rfl;obtain⟨X,a5,a6,a7,a8,a9⟩:=gI (pc:=pc) E g p l B J$ Or.inr rfl;simp only[kH,gT]at S a0 a1 a2 a3 a4 X a5 a6 a7 a8 a9;have M:=zh S;have K:=zh X;have t1:=D.two';have s1:=H.three;have z1:=p.two';have z4:=l.three;clear S X;go_wp2
           go_region
           all_goals
            go_wp2;exact bodyPost_ret (v:=.tuple #[.agg #[qI pc,qS (qP rb) 8 cp],.agg$ qV e1 m1 O e2 Z P e3 m3 V,qI f]) (by first|(simp[results,results129,go_sem,a0,a1,a2,a3,a4];done)|(simp[results,results129,go_sem,a5,a6,a7,a8,a9];done)) rfl ⟨_,_,_,_,_,_,_,_,_,by rw[HX.o.1],by rw[HX.o.2.1];first|exact M.o.1|exact K.o.1,by rw[HX.o.2.2.1,HX.o.2.2.2.1,HX.o.2.2.2.2];first|exact M.o.2.1|exact K.o.2.1,by first|exact M.o.2.2|exact K.o.2.2⟩
          )
        | (clear isB
           have H:Blk (gT I w1.heap.size (qS e1 m1 O) (qS e2 Z P)$ qS e3 m3 V) w1.heap.size (qV e1 m1 O e2 Z P e3 m3 V) 39:=((ae.set 0$ qS e1 m1 O).set 1$ qS e2 Z P).set 2$ qS e3 m3 V;have g:cB (gT I w1.heap.size (qS e1 m1 O) (qS e2 Z P)$ qS e3 m3 V) base _ _ _ _ _ _:=fT (fS (fS (fS ab (qR w1.heap.size 0) (qS e1 m1 O) Jd) (qR w1.heap.size 1) (qS e2 Z P) Jd) (qR w1.heap.size 2) (qS e3 m3 V) Jd)$ show base<=w1.heap.size+1 from J;have U:Turn (λj=>j=w1.heap.size) I (gT I w1.heap.size (qS e1 m1 O) (qS e2 Z P)$ qS e3 m3 V):=((aK _ _ _ _).trans$ aK _ _ _ _).trans$ aK _ _ _ _;replace D:=aC U D λe=>am e;replace p:=aC U p λe=>ao e;replace l:=aC U l λe=>ak e;replace E:=aV U E (λk hk e=>by have e1:some rb=some k:=hk;injection e1 with e1;have e2:k=w1.heap.size:=e;omega);replace B:Turn (λj=>(qS (qP rb) 8 cp).ownBlock=some j) w (gT I w1.heap.size (qS e1 m1 O) (qS e2 Z P)$ qS e3 m3 V):=⟨U.os.trans B.os,U.tape.trans B.tape,U.output.trans B.output,xM B.size U.size,λk hk hs=>(U.block k J (λe=>by have e2:k=w1.heap.size:=e;omega)).trans$ B.block k hk hs⟩;clear U ae ab;unfold gT at D H p l E B g;obtain⟨S,a0,a1,a2,a3,a4⟩:=gI (pc:=pc) E g p l B J$ Or.inl rfl;obtain⟨X,a5,a6,a7,a8,a9⟩:=gI (pc:=pc) E g p l B J$ Or.inr rfl;simp only[kH,gT]at S a0 a1 a2 a3 a4 X a5 a6 a7 a8 a9;have M:=zh S;have K:=zh X;have t1:=D.two';have s1:=H.three;have z1:=p.two';have z4:=l.three;clear S X;go_wp2
           go_region
           all_goals
            go_wp2;exact bodyPost_ret (v:=.tuple #[.agg #[qI pc,qS (qP rb) 8 cp],.agg$ qV e1 m1 O e2 Z P e3 m3 V,qI f]) (by first|(simp[results,results129,go_sem,a0,a1,a2,a3,a4];done)|(simp[results,results129,go_sem,a5,a6,a7,a8,a9];done)) rfl ⟨_,_,_,_,_,_,_,_,_,by rw[HX.o.1],by rw[HX.o.2.1];first|exact M.o.1|exact K.o.1,by rw[HX.o.2.2.1,HX.o.2.2.2.1,HX.o.2.2.2.2];first|exact M.o.2.1|exact K.o.2.1,by first|exact M.o.2.2|exact K.o.2.2⟩
          ))
structure Zt extends Cy where
 ca:qO
 cc:Nat
 a1:qO
 a2:qO
 a3:qO
 ra:qO
 c1:Nat
 c2:Nat
 c3:Nat
 rc:Nat
 pc:Int
 rg:qi
abbrev Zt.c (Z:Zt):Array Value:=#[qI Z.pc,qS Z.ca 8 Z.cc]
abbrev Zt.m (Z:Zt):Array Value:=qV Z.a1 Z.n1 Z.c1 Z.a2 Z.n2 Z.c2 Z.a3 Z.n3 Z.c3
structure Zi (w:qw)(Z:Zt):Prop where
 c:IS w Z.ca 8 Z.cc Z.rg
 m:OB w 0 (qS Z.a1 Z.n1 Z.c1) Z.x1
 n:OB w 0 (qS Z.a2 Z.n2 Z.c2) Z.x2
 o:OB w 0 (qS Z.a3 Z.n3 Z.c3) Z.x3
 r:RS w Z.ra Z.rn Z.rc Z.rs
def StQ (w:qw)(r:Res)(e:Ending)(W:qw):Prop:=
 ∃rb cp a1 m1 d1 a2 m2 d2 a3 m3 d3,e=.returned (.tuple #[.agg #[qI r.pc,qS (qP rb) 8 cp],.agg$ qV a1 m1 d1 a2 m2 d2 a3 m3 d3,qI r.did,qI r.num])/\OI W w.heap.size (qS (qP rb) 8 cp) r.rg/\cB W w.heap.size (qS a1 m1 d1) (qS a2 m2 d2) (qS a3 m3 d3) r.x1 r.x2 r.x3/\qY w W
structure Shy (w:qw)(Z:Zt)(A B:Nat)(r:Res)(cv v1 v2 v3:Value)(W:qw):Prop where
 b:qY w W
 k0:Blk W w.heap.size Z.c 38
 k1:Blk W (w.heap.size+1) Z.m 39
 k2:Blk W (w.heap.size+1+1) zCo 38
 k3:Blk W (w.heap.size+1+1+1) zMe 39
 kA:Blk W A #[qI r.pc,cv] 38
 kB:Blk W B #[v1,v2,v3] 39
 hA:w.heap.size+1+1+1<A
 hB:A<B
 oc:OI W w.heap.size cv r.rg
 om:cB W w.heap.size v1 v2 v3 r.x1 r.x2 r.x3
 i:Zi W Z
section
variable {w W X:qw}{Z:Zt}{A B:Nat}{r r':Res}{cv v1 v2 v3 u1 u2 u3:Value}
def Zi.bw (h:Zi W Z)(b:qY W X):Zi X Z:=⟨h.c.bw b,h.m.bw b,h.n.bw b,h.o.bw b,h.r.bw b⟩
def Shy.step (h:Shy w Z A B r cv v1 v2 v3 W)(b:qY W X):Shy w Z A B r cv v1 v2 v3 X:=
 ⟨yT h.b b,h.k0.bw b,h.k1.bw b,h.k2.bw b,h.k3.bw b,h.kA.bw b,h.kB.bw b,h.hA,h.hB,h.oc.bw b,aY h.om b,h.i.bw b⟩
def Shy.did (h:Shy w Z A B r cv v1 v2 v3 W)(d n):Shy w Z A B { r with did:=d,num:=n } cv v1 v2 v3 W:=⟨h.b,h.k0,h.k1,h.k2,h.k3,h.kA,h.kB,h.hA,h.hB,h.oc,h.om,h.i⟩
def Shy.go (h:Shy w Z A B r cv v1 v2 v3 W)(hz:Zi w Z)(T:Turn (λj=>cv.ownBlock=some j\/j=A\/j=B) W X)(l:Blk X A #[qI r'.pc,cv] 38)(p:Blk X B #[u1,u2,u3] 39)(oc:OI X w.heap.size cv r'.rg)(d:cB X w.heap.size u1 u2 u3 r'.x1 r'.x2 r'.x3):Shy w Z A B r' cv u1 u2 u3 X:=by
 have a:=h.hA;have i:=h.hB;have b:qY w X:=aF h.b T (λk e=>by rcases e with e|e|e;exact(h.oc.lt k e).1;omega;omega) h.b.size;have low:∀{G:Nat}{u:Array Value}{t:TypeId},Blk W G u t->t≠3->G<A->Blk X G u t:=λg f q=>aC T g (λe=>by rcases e with e|e|e;exact jP h.oc g f e;omega;omega);exact⟨b,low h.k0 Ja J,low h.k1 Ja J,low h.k2 Ja J,low h.k3 Ja a,l,p,a,i,oc,d,hz.bw b⟩
def vS (ka:Blk W A #[u1,u2] 38)(kb:Blk W B #[v1,v2,v3] 39)(T:Turn (λj=>j=A\/j=B) W X){b:Nat}{p x1 x2 x3:qi}{c i g f:Value}(h:OI W b c p)(m:cB W b i g f x1 x2 x3):OI X b c p/\cB X b i g f x1 x2 x3:=by
 have d:∀{v:Value}{l:qi},OB W b v l->∀k,v.ownBlock=some k->¬(k=A\/k=B):=λh k a e=>by
  rcases e with rfl|rfl
  .exact rB h ka Ja a
  .exact rB h kb Ja a
 exact⟨aV T h λk a e=>by
  rcases e with rfl|rfl
  .exact jP h ka Ja a
  .exact jP h kb Ja a,aP T m.1$ d m.1,aP T m.2.1$ d m.2.1,aP T m.2.2.1$ d m.2.2.1,m.2.2.2⟩
theorem Shy.reg {cp:Nat}(h:Shy w Z A B r (qS (qP rb) 8 cp) v1 v2 v3 W)(hz:Zi w Z)(i)(hi:i<8)(z)(b:wfi z):Shy w Z A B { r with rg:=r.rg.set i z } (qS (qP rb) 8 cp) v1 v2 v3 (W.setCell (qR rb i)$ qI z):=by
 have T:Turn (λj=>j=rb) W (W.setCell (qR rb i)$ qI z):=aK _ _ _ _;let⟨l,g⟩:=h.oc.blk;have a:∀{u:Value}{d:qi},OB W (qs w) u d->∀k,u.ownBlock=some k->¬k=rb:=λh k f e=>rB h g Ja (by grind);have e:∀j,j=rb->(qS (qP rb) 8 cp).ownBlock=some j:=λj e=>by rw[e];rfl
 exact h.go hz (T.mono λj q=>.inl$ e j q) (aC T h.kA λq=>jP h.oc h.kA Ja$ e _ q) (aC T h.kB λq=>jP h.oc h.kB Ja$ e _ q) (h.oc.set i hi z b) ⟨aP T h.om.1$ a h.om.1,aP T h.om.2.1$ a h.om.2.1,aP T h.om.2.2.1$ a h.om.2.2.1,h.om.2.2.2⟩
theorem Shy.setpc (h:Shy w Z A B r cv v1 v2 v3 W)(hz:Zi w Z)(q):Shy w Z A B { r with pc:=q } cv v1 v2 v3 (W.setCell (qR A 0)$ qI q):=by
 have:=h.hB;have T:Turn (λj=>j=A\/j=B) W (W.setCell (qR A 0)$ qI q):=(aK _ _ _ _).mono λ_=>.inl;exact h.go hz (T.mono λ_=>.inr) (by simpa using h.kA.set 0$ qI q) (h.kB.other (qR A 0) (qI q) (by grind)) (vS h.kA h.kB T h.oc h.om).1 (vS h.kA h.kB T h.oc h.om).2
theorem Shy.mem (h:Shy w Z A B r cv v1 v2 v3 W)(hz:Zi w Z)(T:Turn (λj=>cv.ownBlock=some j) W X)(oc:OI X w.heap.size cv r'.rg)(f:cB X w.heap.size u1 u2 u3 r'.x1 r'.x2 r'.x3)(g:r'.pc=r.pc):Shy w Z A B r' cv u1 u2 u3 (gT (kH X A (qI r.pc) cv) B u1 u2 u3):=by
 have:=h.hB;have a:=aC T h.kA λe=>jP h.oc h.kA Ja e;have b:=aC T h.kB λe=>jP h.oc h.kB Ja e;have t:Turn (λj=>j=A\/j=B) X (gT (kH X A (qI r.pc) cv) B u1 u2 u3):=(((aK _ _ _ _).trans$ aK _ _ _ _).mono λk e=>Or.inl e).trans$ (((aK _ _ _ _).trans$ aK _ _ _ _).trans$ aK _ _ _ _).mono λk e=>Or.inr e;refine h.go hz ((T.mono λ_=>.inl).trans$ t.mono λ_=>.inr) ?_ ?_ (vS a b t oc f).1 (vS a b t oc f).2
 .have d:=((((a.set 0$ qI r.pc).set 1 cv).other (qR B 0) u1 (by grind)).other (qR B 1) u2 (by grind)).other (qR B 2) u3 (by grind);simpa[kH,gT,g]using d
 .have d:=((((b.other (qR A 0) (qI r.pc) (by grind)).other (qR A 1) cv (by grind)).set 0 u1).set 1 u2).set 2 u3;simpa[kH,gT]using d
def Shy.ne (h:Shy w Z A B r cv v1 v2 v3 W):A≠w.heap.size+1+1/\A≠w.heap.size+1+1+1/\B≠w.heap.size+1+1/\B≠w.heap.size+1+1+1/\w.heap.size+1+1≠A/\w.heap.size+1+1+1≠A/\w.heap.size+1+1≠B/\w.heap.size+1+1+1≠B:=by
 have:=h.hA;have:=h.hB;omega
def aDn {rb cp a1 d i a2 g f a3 j a:_}{tmps:Array Value}{Y V:qw}(oc:OI W w.heap.size (qS (qP rb) 8 cp) r.rg)(l:cB W w.heap.size (qS a1 d i) (qS a2 g f) (qS a3 j a) r.x1 r.x2 r.x3)(q:Blk W (w.heap.size+1+1) zCo 38)(t:Blk W (w.heap.size+1+1+1) zMe 39)(b:qY w W)(ha:tmps[6]?=some (.pointer$ qP$ w.heap.size+1+1))(k:tmps[7]?=some (.pointer$ qP$ w.heap.size+1+1+1))(hc:tmps[8]?=some (qI r.did))(hd:tmps[9]?=some (qI r.num))
 (p:Y=gT (kH W (w.heap.size+1+1) (qI r.pc)$ qS (qP rb) 8 cp) (w.heap.size+1+1+1) (qS a1 d i) (qS a2 g f) (qS a3 j a)\/Y=kH (gT W (w.heap.size+1+1+1) (qS a1 d i) (qS a2 g f)$ qS a3 j a) (w.heap.size+1+1) (qI r.pc) (qS (qP rb) 8 cp)) (s:V=Y\/V=Y.drew):
 bodyPost prog f75 (StQ w r) Exit.ret ⟨tmps,[]⟩ V:=by
 let⟨⟨e,u,x⟩,y,A,B,C,D⟩:=aN6 oc l q t (aG b (S:=λ_=>False)) J p;rcases s with rfl|rfl
 .exact bodyPost_ret_by (v:=.tuple #[.agg #[qI r.pc,qS (qP rb) 8 cp],.agg$ qV a1 d i a2 g f a3 j a,qI r.did,qI r.num]) (by simp[results,results75,go_sem,ha,k,hc,hd,y,A,B,C,D]) rfl ⟨_,_,_,_,_,_,_,_,_,_,_,rfl,e,u,aF (Below.refl _ _) x (λ_ h=>h.elim) aQ⟩
 .exact bodyPost_ret_by (v:=.tuple #[.agg #[qI r.pc,qS (qP rb) 8 cp],.agg$ qV a1 d i a2 g f a3 j a,qI r.did,qI r.num]) (by simp[results,results75,go_sem,ha,k,hc,hd,y,A,B,C,D]) rfl ⟨_,_,_,_,_,_,_,_,_,_,_,rfl,e,u,aF (Below.refl _ _) (aTx x) (λ_ h=>h.elim) aQ⟩
theorem iO {a:qi}(h:cok pc n a=true):0<=pc/\pc<=4294967295/\n=8/\∀z∈a,0<=z/\z<=4294967295:=by
 unfold cok at h
 grind
theorem mV {a:qO}{b:qi}(h:OI w base (qS a n cap) b)(hn:n≠0):∃g,a=qP g:=by
 obtain⟨_,⟨f,_⟩|⟨g,d,e,i,_⟩⟩:=h.1
 .grind
 .grind
def aTu {n1 n2 n3:Nat}{x1 x2 x3:qi}{p s v:Int}:(wrm n1 n2 n3 x1 x2 x3 p s v).2.2.2≠0->wrm n1 n2 n3 x1 x2 x3 p s v=(x1,x2,x3,(wrm n1 n2 n3 x1 x2 x3 p s v).2.2.2):=by
 unfold wrm
 repeat' split
 all_goals(intro h;first|rfl|exact absurd rfl h)
theorem aSd (C op d a i pc rg)(h:14<=op/\op<=19):((opz C op d a i pc rg).did=0/\(opz C op d a i pc rg).num=0/\(opz C op d a i pc rg).pc=m32 (pc+4))\/∃f,f≠0/\opz C op d a i pc rg=C.go 5 f pc rg:=by
 have A:∀s,((ldz C pc rg d a i s).did=0/\(ldz C pc rg d a i s).num=0/\(ldz C pc rg d a i s).pc=m32 (pc+4))\/∃f,f≠0/\ldz C pc rg d a i s=C.go 5 f pc rg:=λs=>by
  unfold ldz
  grind
 have B:∀s,((stz C pc rg d a i s).did=0/\(stz C pc rg d a i s).num=0/\(stz C pc rg d a i s).pc=m32 (pc+4))\/∃f,f≠0/\stz C pc rg d a i s=C.go 5 f pc rg:=λs=>by
  unfold stz;split
  .dsimp only;split
   .grind
   .next q=>have:=aTu q;refine .inr ⟨_,q,?_⟩;unfold Cy.wr;rw[this]
  .grind
 rcases(show op=14\/op=15\/op=16\/op=17\/op=18\/op=19 from J)with rfl|rfl|rfl|rfl|rfl|rfl
 .exact A 1
 .exact A 2
 .exact A 4
 .exact B 1
 .exact B 2
 .exact B 4
end
abbrev Mr (w1 w':qw)(G:Nat)(Y:Lyb)(C:Cn)(v13:Value):Prop:=∃M' vr',Mg w1 w' G Y C M' v13 vr'/\Rgn w' vr' (plQ C Y.L)
def pA {w w':qw}{rs:List Rg}{q:Nat}{a:TypeId}(h:Rgn w v rs)(T:Turn (λj=>j=q) w w')(k:Blk w q cs a)(n:a≠231:=by decide):Rgn w' v rs:=vI h T (λj b=>by subst b;exact⟨_,_,k,n⟩)
def aMt (b k)(h:∀z∈b,0<=z/\z<=4294967295):∀z∈aN b k,0<=z/\z<=4294967295:=by
 intro z d;obtain⟨i,hi,rfl⟩:=List.mem_map.1 d;split
 .have a:i<b.length:=by simpa using hi
  have:=h b[i] (List.getElem_mem a);simpa[xB,a]using this
 .omega
def aPj (pc b off A rg a1 a2 a3 n1 c1 n2 c2 n3 c3 ra rn rc w)(h:IS w (some$ qR b off) 8 A rg)(K:0<=pc)(G:pc<=4294967295)(t:∀z∈rg,0<=z/\z<=4294967295):
 qC 89 #[.agg #[qI pc,qS (some$ qR b off) 8 A],.agg$ qV a1 n1 c1 a2 n2 c2 a3 n3 c3,qS ra rn rc] w λe w'=>∃g,w.heap.size<=g/\e=.returned (.pointer$ qP g)/\Pr w' g pc rg (qS a1 n1 c1) (qS a2 n2 c2) (qS a3 n3 c3) (qS ra rn rc)/\qY w w':=by
 let⟨W,B⟩:=aO$ ((w.alloc$ .cells #[qI pc,qS (some ⟨b,off,none⟩) 8 A] 38).alloc$ .cells (qV a1 n1 c1 a2 n2 c2 a3 n3 c3) 39).alloc$ .cells #[.int .u32 pc,.int .u32 0,.int .u32 0,.int .u32 0,.int .u32 0,.int .u32 0,.int .u32 0,.int .u32 0,.int .u32 0,qS a1 n1 c1,qS a2 n2 c2,qS a3 n3 c3,qS ra rn rc] 152;have l:=h.1;have f:qY w W:=by rw[B];exact(bal.alloc Jb _).alloc Jc _
 have P0:Pr W (w.heap.size+1+1) pc (aN rg 0) (qS a1 n1 c1) (qS a2 n2 c2) (qS a3 n3 c3) (qS ra rn rc):=by
  refine⟨?_,by rw[rG];exact l,⟨K,G⟩,aMt rg 0 t⟩;rw[kY,l,B];have:=Blk.new ((w.alloc$ .cells #[qI pc,qS (qe b off) 8 A] 38).alloc$ .cells (qV a1 n1 c1 a2 n2 c2 a3 n3 c3) 39) #[.int .u32 pc,.int .u32 0,.int .u32 0,.int .u32 0,.int .u32 0,.int .u32 0,.int .u32 0,.int .u32 0,.int .u32 0,qS a1 n1 c1,qS a2 n2 c2,qS a3 n3 c3,qS ra rn rc] 152;simp only[xF]at this;exact this
 have E:=zh (show IntKind.u32.wrap pc=pc by rw[IntKind.wrap_u32];omega)
 delta qC;go_in
 go_wp2;rw[<-B];clear B;have H:=zh h;clear h;go_loopw [20] (λi wr=>∃k:Nat,k<=8/\i=qI k/\Pr wr (w.heap.size+1+1) pc (aN rg k) (qS a1 n1 c1) (qS a2 n2 c2) (qS a3 n3 c3) (qS ra rn rc)/\qY w wr) (qf 8)
 .exact⟨0,xC _,rfl,P0,f⟩
 .obtain⟨k,N,rfl,d,j⟩:=hrel;clear P0 f;by_cases a:k<8
  .have u:(k:Int)<8:=J
   have I:=(H.bw j).at k a;have O:=t (rg.getD k 0) (by rw[xB,xN$ show k<rg.length from J];exact List.getElem_mem _);have x:=d.reg k a;have C:=d.blk.frozen$ 1+k;have q:=d.setreg k a (rg.getD k 0) O;rw[rE rg k J]at q;have s:qY w (wr.setCell (qR (w.heap.size+1+1)$ 1+k)$ .int .u32$ rg.getD k 0):=j.setCell Jd _;obtain⟨P,Q⟩:=O;generalize rg.getD k 0=z at *;generalize (aN rg k).getD k 0=y at *;have M:=zh q;have D:=zh s;clear q s d j;go_wp2
   go_roundw
   .exact⟨k+1,J,by go_num,M,D⟩
   .simp[qf,intOf];omega
  .have e:Zh (k=8):=by show k=8;omega
   have p:=zh d;clear d;go_wp2;go_ret;exact⟨_,J,rfl,by have:=p.o;rw[e.o,<-l,rH]at this;exact this,j⟩
def sbO (x:qi):ByteArray:=⟨(x.map λz=>UInt8.ofNat z.toNat).toArray⟩
theorem aOk:∀x y:List Int,(∀z∈x,0<=z/\z<=255)->(∀z∈y,0<=z/\z<=255)->(x.map λz=>UInt8.ofNat z.toNat)=(y.map λz=>UInt8.ofNat z.toNat)->x=y
 | [],[],_,_,_=>rfl
 | [],b::y,_,_,h=>by grind
 | a::x,[],_,_,h=>by grind
 | a::x,b::y,hx,hy,h=>by
   simp only[List.map_cons,List.cons.injEq]at h;have:=hx a Jb;have:=hy b Jb;have e:=congrArg UInt8.toNat h.1;rw[UInt8.toNat_ofNat',UInt8.toNat_ofNat']at e;have d:a=b:=J
   rw[d,aOk x y (λz f=>hx z (by grind)) (λz f=>hy z (by grind)) h.2]
theorem aU1 {x y:qi}(hx:∀z∈x,0<=z/\z<=255)(a:∀z∈y,0<=z/\z<=255):sbO x=sbO y ↔ x=y:=by
 constructor
 .intro h;unfold sbO at h;simp at h;exact aOk x y hx a (by grind)
 .grind
theorem aHr (w a n c x)(h:BS w a n c x):(convert 28 9$ qS a n c).run prog w=.ok (.string$ sbO x) w:=by
 obtain⟨rfl,p,i,l,q⟩:=h;by_cases e:x.length=0
 .obtain rfl:x=[]:=xE e;rw[run_convert_bytes_string w 28 9 5 a _ c underlying28 underlying5 underlying9];cases a<;>simp[Conv.bytesToString,sbO]<;>rfl
 .obtain⟨b,k,rfl,hc⟩:=l e;have f:(x.map λz=>UInt8.ofNat z.toNat).length=x.length:=Jb
  have:=run_convert_bytes_back (P:=prog) w 28 9 5 (qR b k) c (x.map λz=>UInt8.ofNat z.toNat) underlying28 underlying5 underlying9 (λj g=>by
   have d:j<x.length:=by grind
   rw[cE,hc j d];have e1:x.getD j 0=x[j]:=by grind
   have s:=i _$ List.getElem_mem d;have e2:(UInt8.ofNat (x[j]).toNat).toNat=(x[j]).toNat%256:=UInt8.toNat_ofNat'
   grind)
  rw[f]at this;exact this
def nK (a f n c g c' x y w)(h:BS w a n c x)(b:BS w f g c' y):
 qC 186 #[qS a n c,qS f g c'] w λe w'=>e=.returned (.bool$ decide$ x=y)/\w=w':=by
 have:=aHr w a n c x h;have:=aHr w f g c' y b;have d:=zh$ aU1 h.2.2.1 b.2.2.1;generalize sbO x=s at *;generalize sbO y=t at *
 delta qC;go_in
 go_wp2;go_ret;refine⟨aA ?_,rfl⟩;rw[xJ];simp[<-d.o,ByteArray.toList_eq];exact⟨λh=>by cases s;cases t;cases h;rfl,λh=>by rw[h]⟩
