import Derived.Test.YtdjdcdnjjmjonaaGreatR31
set_option linter.all false
set_option maxHeartbeats 4000000
namespace Go.Proofs.YtdjdcdnjjmjonaaGreat
open Go.RowKit
set_option maxRecDepth 100000
variable {C:Cn}{L:Lay}{a:Nat}{b i j k m:Int}{fn:Func}{tmps:Array Value}{u0 u1 u2 u3 v:Value}
abbrev zqM (C:Cn)(M:Mn)(L:Lay)(A:qO)(c aN g:Nat):Mz:={ toCy:=C.z L,g:=g,b:=aN,a1:=M.fa,a2:=M.ra,a3:=M.oa,ra:=A,c1:=M.fc,c2:=M.rc,c3:=M.oc,rc:=c }
def TcP (w1 w:qw)(G:Nat)(Y:Lyb)(v13:Value)(r:Int×Int×Cn)(e:Ending)(w':qw):Prop:=e=.returned (.agg #[qI r.1,qI r.2.1])/\Mr w1 w' G Y r.2.2 v13/\Kb w w'
def aH9 {l w W:qw}{G:Nat}{Y:Lyb}{M:Mn}{d f:Value}{q:Nat}{u:Value}{r:Int×Int×Cn}(s:fn.results=#[.cell a 80])(ha:tmps[a]?=some (.pointer$ qP q))(h:Mg l W G Y C M d f/\Rgn W f (plQ C Y.L))(g:Blk W q #[u,v] 80)(x:Kb w W)(y:w.heap.size<=q)(A:G<w.heap.size)(e:r=(i,j,C)):bodyPost Tryz.prog fn (TcP l w G Y d r) Exit.ret ⟨tmps,[]⟩ (evs W q i j):=by
 subst e;have T:=(aK W q 0$ qI i).trans$ aK _ q 1$ qI j;have p:=(g.set 0$ qI i).set 1$ qI j;have e0:(evs W q i j).cell? (qR q 0)=qj i:=by rw[p.cell];rfl
 have e1:(evs W q i j).cell? (qR q 1)=qj j:=by rw[p.cell];rfl
 exact bodyPost_ret_by (v:=.agg #[qI i,qI j]) (by simp[results,s,go_sem,ha,e0,e1]) rfl ⟨rfl,⟨M,f,h.1.bx g J Ja T,pA h.2 T g⟩,λk B t n b=>aC T (x k B t n b) λe=>jK b.lt⟩
def aNx (w1 G Y C M a0 A k c w)(h:Mg w1 w G Y C M a0 (qS A k c))(hr:Rgn w (qS A k c) (plQ C Y.L))(hv:Cv C Y.L)(hp:wrd C.pc)(hz:∀z∈C.kz,wrd z)(hd:C.cd<=100)(hf:∀i,i<C.hz.length->frk C.ps (C.hz.getD i zFr)):
 qC 33 #[.pointer$ qP G] w (TcP w1 w G Y a0$ tkR C Y.L):=by
 have hg:=h.k.lt;let⟨U,hU,bU,kU⟩:=nwb w #[qI 0,qI 0] 80;have HU:=zh hU;have b0:U.heap.size=w.heap.size+1:=by rw[hU];simp
 let⟨⟨_,_,_,_,e5,_,_,e8⟩,_,_⟩:=h.vs;have bc:qN U G 14=qj C.tn:=by rw[<-e8];exact(h.k.bw bU).cell 14
 by_cases c0:C.tn<1000000000
 rotate_left
 .have ht:(C.tn==1000000000)=true:=by have:=hv.t;simp;omega
  have HE:=zh (show tkR C Y.L=(5,2,C)by unfold tkR;rw[if_neg c0]);have HF:=zh$ xA (eG ⟨h,hr⟩ bU)$ xA kU bU;have r0:=kU.two';clear h hr hv hp hz hd hf hU bU kU e5 e8 c0
  delta qC;go_in
  go_wp2_with (rw[<-HU.o])
  exact aH9 rfl rfl HF.1 HF.2.1 (bR HF.2.2) aQ hg HE
 have ht:(C.tn==1000000000)=false:=Jc
 let⟨bg,aN,Ls,β,m,g1,g2⟩:=h.m;have hs:=eV hr.choose_spec;obtain rfl:k=(plQ C Y.L).length:=hs.1.symm;have l1:=bC m.q.1;have l2:=bC m.q.2.1;have l3:=bC m.q.2.2.1;have K:Stk (C.z Y.L) C.pc C.kz (C.r Y.L):=aDo (C:=C.z Y.L) hp hv.g hz m.q.1.2 m.q.2.1.2 rfl hv.b;have ek:M.kn=8:=by rw[gU m.k];exact hv.g
 let⟨gk,ea⟩:=mV m.k J;have q0:cB w aN (qS M.fa C.fz.length M.fc) (qS M.ra C.rz.length M.rc) (qS M.oa C.oz.length M.oc) C.fz C.rz C.oz:=by rw[<-l1,<-l2,<-l3];exact m.q
 have HX:=zh (λ(X:qw)(b:qY w X)=>show qN X G 5=qj C.pc/\qN X G 6=qk (qP gk) 8 M.kc/\qN X G 7=qk M.fa C.fz.length M.fc/\qN X G 8=qk M.ra C.rz.length M.rc/\qN X G 9=qk M.oa C.oz.length M.oc/\qN X G 23=qk A (plQ C Y.L).length c by
  have q:=h.k.bw b;have q5:qN X G 5=qj M.pc:=q.cell 5;have q6:qN X G 6=qk M.ka M.kn M.kc:=q.cell 6;have q7:qN X G 7=qk M.fa M.fn M.fc:=q.cell 7;have q8:qN X G 8=qk M.ra M.rn M.rc:=q.cell 8;have q9:qN X G 9=qk M.oa M.on M.oc:=q.cell 9;rw[e5]at q5;rw[ea,ek]at q6;rw[l1]at q7;rw[l2]at q8;rw[l3]at q9
  exact⟨q5,q6,q7,q8,q9,q.cell 23⟩)
 have av:=zh q0;let⟨V,hV,bV,kV⟩:=nwb U #[qI C.pc,qS (qP gk) 8 M.kc] 38;have B0:=yT bU bV;rw[b0]at kV;have aa:=zb w λX b=>aPj C.pc gk 0 M.kc C.kz M.fa M.ra M.oa C.fz.length M.fc C.rz.length M.rc C.oz.length M.oc A (plQ C Y.L).length c X (by have:=(m.k.bw b).is;rw[ea,ek]at this;exact this) hp.1 hp.2 hz
 have ao:=zh (λ(g:Nat)(X:qw)(b:qY w X)(b5:w.heap.size<=g)(P:Pr X g C.pc C.kz (qS M.fa C.fz.length M.fc) (qS M.ra C.rz.length M.rc) (qS M.oa C.oz.length M.oc) (qS A (plQ C Y.L).length c))=>show qC 90 #[.pointer$ qP g] X (OpP X (zqM C M Y.L A c aN g)$ C.r Y.L)from aV5 (M:=zqM C M Y.L A c aN g) X ⟨P,aY q0 b,λv ba e=>by
  rcases ba with rfl|rfl|rfl
  .have:=(q0.1.lt g e).2;omega
  .have:=(q0.2.1.lt g e).2;omega
  .have:=(q0.2.2.1.lt g e).2;omega,by show aN<=X.heap.size;have:=b.size;omega⟩$ hs.bw b)
 have HS:=zh (λ(g:Nat)(X:qw)(b:qY w X)(b5:w.heap.size<=g){cs:Array Value}(P:Blk X g cs 152)=>show ∀j,Uz (zqM C M Y.L A c aN g) j->aN<=j/\∃cs ty,Blk X j cs ty/\(ty=5\/ty=152)from λj Z=>by
  have q:=aY q0 b;rcases Z with Z|Z|Z
  .obtain rfl:j=g:=Z;exact⟨J,_,_,P,.inr rfl⟩
  .have⟨cs,kb⟩:=aE q.2.1.1 Z;exact⟨(q.2.1.lt _ Z).1,cs,_,kb,.inl rfl⟩
  .have⟨cs,kb⟩:=aE q.2.2.1.1 Z
   exact⟨(q.2.2.1.lt _ Z).1,cs,_,kb,.inl rfl⟩)
 have HK:=zh K;have HT:=zh (show tkR C Y.L=if (tkF C Y.L).1=5 then (5,(tkF C Y.L).2.1,C) else tkF C Y.L by unfold tkR;rw[if_pos c0]);have a4:=zh λq=>aWf K q;have b7:=zh hr;have HH:=zh$ xA h$ xA m$ xA g1$ xA g2$ xA ea ek
 have an:Zh (∀(d0:0<=(C.r Y.L).did/\(C.r Y.L).did<=5)(X:qw)(M':Mn),Mg w1 X G Y (C.n Y.L) M' a0 (qS A (plQ C Y.L).length c)/\Rgn X (qS A (plQ C Y.L).length c) (plQ (C.n Y.L) Y.L)->qC 92 #[.pointer$ qP G,.agg #[qI (C.r Y.L).did,qI (C.r Y.L).num]] X (FlP w1 X G Y a0$ tkF C Y.L)):=λd0 X M' h'=>aJu w1 G Y _ M' a0 _ _ _ X h' ⟨hv.stp K,K.w,hd,hf,c0⟩ d0.1 d0.2 (λa b=>by
  rcases K.d with⟨e1,e2⟩|⟨f,e⟩|⟨d,n,_,e,hn,_⟩
  .omega
  .rw[e]at b;exact absurd (show(5:Int)<=3 from b) Ja
  .rw[e];exact hn)
 have y5:=HX V B0;have x5:=HX U bU;have v0:=kV.two';have HB:=zh$ xA bU$ xA kU$ xA B0$ xA kV bV;have HV:=zh hV;have bj:G<V.heap.size:=jK B0.size;clear h hr hs hv hp hz hd hf hU bU kU e5 e8 c0 m g1 g2 l1 l2 l3 K ek ea q0 hV bV B0 kV
 delta qC;go_in
 go_wp2_with (first|rw[<-HU.o]|rw[<-HV.o])
 clear b0
 go_region_held3 (λw'=>w'.cell? (qr w 0)=qj C.pc/\w'.cell? (qr w 1)=qk (qP gk) 8 M.kc/\qN w' G 7=qk M.fa C.fz.length M.fc/\qN w' G 8=qk M.ra C.rz.length M.rc/\qN w' G 9=qk M.oa C.oz.length M.oc/\qN w' G 23=qk A (plQ C Y.L).length c) (go_keep)
  (first|(go_at_call 89;(first|with_reducible refine(aa.o _ HB.o.2.2.1).mono ?_|with_reducible refine(aa.o _ HB.o.2.2.1.drew).mono ?_);rintro e X2 ⟨g,a3,rfl,P2,O⟩;replace O:qY V X2:=(by first|exact O|exact aU O);have l:=yT HB.o.2.2.1 O;obtain⟨z5,z6,z7,z8,z9,be⟩:=HX.o X2 l;obtain⟨u0,u1,u2⟩:=(HB.o.2.2.2.1.bw O).two'))
 have u:w.heap.size<=g:=by have:=HB.o.2.2.1.size;simp at a3;omega
 have gG:g≠G:=J
 have Gg:G≠g:=J
 have aq:=zh$ ao g X2 l u P2;have Q:=zh$ HS g X2 l u P2.blk;have H2:=zh$ xA l$ xA O u;clear O P2 l a3 u aa ao HS bc x5 y5 v0 z5 z6 z7 z8 z9 be u0 u1 u2 HV HU;go_wp2_with fail
 apply aq.mono;rintro e p ⟨a5,n3,c3,rfl,P3,T3⟩;let⟨X4,b1,b4,k4⟩:=nwb p #[qI (C.r Y.L).did,qI (C.r Y.L).num] 80;have ab:=HH.1.k.bw H2.1
 have kG:=(aC T3 ab (λs=>by
  let⟨_,cs,ty,kb,e⟩:=Q _ s;have:=aH ab kb
  rcases e with rfl|rfl<;>exact absurd this Ja)).bw b4
 have P4:=P3.bw b4;have p9:qN X4 g 9=qk M.fa C.fz.length M.fc:=P4.p.mem.1;have ay:qN X4 g 10=qk M.ra C.rz.length M.rc:=P4.p.mem.2.1;have au:qN X4 g 11=qk a5 n3 c3:=P4.p.mem.2.2.1;have a8:=zb X4 λX b=>show ∃s5 s6 s7 s8 s9,qN X G 5=some s5/\qN X G 6=some s6/\qN X G 7=some s7/\qN X G 8=some s8/\qN X G 9=some s9/\∀i,X.frozen? (qR G i)=false from⟨_,_,_,_,_,(kG.bw b).cell 5,(kG.bw b).cell 6,(kG.bw b).cell 7,(kG.bw b).cell 8,(kG.bw b).cell 9,(kG.bw b).frozen⟩;have ax:=zb X4 λX b=>show qN X g 9=qk M.fa C.fz.length M.fc/\qN X g 10=qk M.ra C.rz.length M.rc/\qN X g 11=qk a5 n3 c3 from⟨(P4.bw b).p.mem.1,(P4.bw b).p.mem.2.1,(P4.bw b).p.mem.2.2.1⟩;have ad:=zb X4 λX b=>show qC 91 #[.pointer$ qP g] X (fQ X (C.r Y.L).pc 8 (C.r Y.L).rg)from aV8 X$ P4.p.bw b;let⟨s5,s6,s7,s8,s9,w5,w6,w7,w8,w9,wf⟩:=a8 X4 brf;have H4:=zh$ xA P3$ xA T3$ xA b4 k4;have az:=zh b1;clear P3 T3 b4 k4 ab kG P4 b1 aq;go_wp2_with (rw[<-az.o])
 go_region_held3 (λw'=>qN w' g 9=qk M.fa C.fz.length M.fc/\qN w' g 10=qk M.ra C.rz.length M.rc/\qN w' g 11=qk a5 n3 c3) (go_keep)
  (first|(go_at_call 91;(first|with_reducible refine(ad.o _ brf).mono ?_|with_reducible refine(ad.o _ brf.drew).mono ?_);rintro e X5 ⟨b2,ck,rfl,O5,B⟩;replace B:qY X4 X5:=(by first|exact B|exact aU B);obtain⟨p9,ay,au⟩:=ax.o X5 B;obtain⟨s5,s6,s7,s8,s9,w5,w6,w7,w8,w9,wf⟩:=a8.o X5 B))
 let⟨X6,a6⟩:=aO$ st5 X5 G (qI (C.r Y.L).pc) (qS b2 8 ck) (qS M.fa C.fz.length M.fc) (qS M.ra C.rz.length M.rc)$ qS a5 n3 c3;let⟨P3,T3,b4,k4⟩:=H4.o;let⟨l,O,a3⟩:=H2.o;let⟨h0,m0,g1,g2,ea,ek⟩:=HH.o;let⟨bU,kU,B0,kV,bV⟩:=HB.o;have b8:=l.size;have bb:=T3.size;have b6:=b4.size;let⟨Q1,Q2,Q3,Q4⟩:=aVn (h0.bw l) (m0.bw l) g1 g2 ((T3.trans$ aG b4).trans$ aG B) Q (aY (aY P3.o b4) B) (O5.mono$ show aN<=X4.heap.size from J) (C.r Y.L).pc a6
 have nu:∀{j:Nat}{cs:Array Value}{t:TypeId},Blk X2 j cs t->t≠5->t≠152->¬Uz (zqM C M Y.L A c aN g) j:=λb n1 n2 s=>by
  let⟨_,cs,ty,kb,e⟩:=Q _ s;have:=aH b kb;rcases e with rfl|rfl
  .exact n1 this
  .exact n2 this
 have ap:=((aC T3 (h0.k.bw l)$ nu (h0.k.bw l) Ja Ja).bw b4).bw B
 have R6:Rgn X6 (qS A (plQ C Y.L).length c) (plQ (C.n Y.L) Y.L):=pA (mP (mP (vI (mP b7.o l) T3 (λj Z=>by
  let⟨_,cs,ty,kb,e⟩:=Q.o _ Z
  exact⟨cs,ty,kb,by rcases e with rfl|rfl<;>decide⟩)) b4) B) Q4 ap
 have a7:∀{j:Nat}{cs:Array Value}{t:TypeId},Blk X2 j cs t->t≠5->t≠152->j≠G->Blk X6 j cs t:=λb n1 n2 n3=>aC Q4 (((aC T3 b$ nu b n1 n2).bw b4).bw B) n3;have b9:=B0.size;have ae:=aC Q4 (k4.bw B)$ show ¬p.heap.size=G from J;have aw:=a7 (kV.bw O) Ja Ja J;have ar:=a7 ((kU.bw bV).bw O) Ja Ja J
 have E:Kb w X6:=λj cs t n b=>aC Q4 (((aC T3 (b.bw l) (λs=>by
  rcases s with s|s|s
  .have e:j=g:=s;have:=b.lt;omega
  .have⟨bd,kb⟩:=aE (aY av l).2.1.1 s;exact n$ .inl$ .inl$ aH (b.bw l) kb
  .have⟨bd,kb⟩:=aE (aY av l).2.2.1.1 s
   exact n$ .inl$ .inl$ aH (b.bw l) kb)).bw b4).bw B) (λe=>by
  have e':j=G:=e;subst e'
  exact n$ .inl$ .inr$ .inl$ aH b h0.k)
 rw[ea,ek]at Q3;have HQ:=zh$ xA Q1$ xA Q2$ xA Q3$ xA aw$ xA ar$ xA E$ xA R6 ae
 have ag:=zh (an (by
  rcases HK.d with⟨e1,e2⟩|⟨f,e⟩|⟨d,n,hd,e,_⟩
  .omega
  .rw[e];exact⟨by show(0:Int)<=5;decide,by show(5:Int)<=5;decide⟩
  .rw[e];show 0<=d/\d<=5;omega) X6 _ ⟨Q1,R6⟩)
 have bf:w.heap.size+1<p.heap.size:=jK$ (kV.bw O).lt;let⟨e0,e1,e2⟩:=ae.two';unfold st5 at a6;have ah:=zh a6;have ai:=zh$ xA g1 g2;clear P3 T3 b4 k4 l O a3 h0 m0 g1 g2 ea ek bU kU B0 kV bV b8 bb b6 b9 Q1 Q2 Q3 Q4 R6 ap nu a7 ae aw ar E a6 O5 B p9 ay au w5 w6 w7 w8 w9 wf an ad ax a8 az H4 Q H2 HB HH HX;go_wp2_with (rw[<-ah.o])
 apply ag.mono;rintro e X7 ⟨rfl,⟨M7,bh,h7⟩,y,a2⟩;let⟨Q1,Q2,Q3,kC,kR,E,R6,H⟩:=HQ.o;let⟨g1,g2⟩:=ai.o;replace H:=y _ _ _ Jg H;replace kC:=y _ _ _ Jg kC;replace kR:=y _ _ _ Jg kR;generalize tkF C Y.L=F at *;obtain⟨f1,f2,N⟩:=F;dsimp only at h7 a2 HT a4;have I:=(aK X7 p.heap.size 0$ qI f1).trans$ aK _ p.heap.size 1$ qI f2;have D:=(H.set 0$ qI f1).set 1$ qI f2;let⟨X8,a1⟩:=aO$ evs X7 p.heap.size f1 f2;unfold evs at a1;rw[<-a1]at I D;have a9:=aC I kC$ show ¬w.heap.size+1=p.heap.size from J;have S:=aC I kR$ show ¬w.heap.size=p.heap.size from J;have W:Kb w X8:=λj cs t n b=>aC I (y j cs t n$ E j cs t n b) (λe=>by have:=b.lt;have e':j=p.heap.size:=e;omega);let⟨e0,e1,e2⟩:=H.two';let⟨c0,c1,c2⟩:=a9.two';have f0:X8.cell? (qh p 0)=qj f1:=by rw[D.cell];rfl
 have am:=zh a1;have gE:G<p.heap.size:=J
 by_cases c5:f1=5
 .subst c5;let⟨eF,eC⟩:=a4 rfl;have x:=a2 rfl;have m8:=(Q2.bw x).bx H J Ja I;have h8:=(Q1.bw x).bx H gE Ja I;have R8:=pA (mP R6 x) I H;have o8:=aV I (Q3.bw x)$ aS H (Q3.bw x).1 Ja;have h9:∀N',{ C.n Y.L with pc:=C.pc,kz:=C.kz }=N'->∃M',Mg w1 ((X8.setCell (qR G 5)$ qI C.pc).setCell (qR G 6)$ qS (qP gk) 8 M.kc) G Y N' M' a0$ qS A (plQ C Y.L).length c:=λN' e=>by subst e;exact⟨_,aSq h8 m8 g1 g2 o8 C.pc⟩
  let⟨M9,h9⟩:=h9 C eC;have T9:=(aK X8 G 5$ qI C.pc).trans$ aK _ G 6$ qS (qP gk) 8 M.kc;let⟨X9,aj⟩:=aO$ (X8.setCell (qR G 5)$ qI C.pc).setCell (qR G 6)$ qS (qP gk) 8 M.kc;have R9:=pA (rs:=plQ C Y.L) R8 T9 h8.k;rw[<-aj]at h9 T9 R9;have ac:=aC T9 D$ show ¬p.heap.size=G from J;have af:=aC T9 S$ show ¬w.heap.size=G from J
  have ak:Kb w X9:=λj cs t n b=>aC T9 (W j cs t n b) (λe=>by
   have e':j=G:=e;subst e'
   exact n$ .inl$ .inr$ .inl$ aH (W j cs t n b) h8.k)
  have w5:=h8.k.cell 5;have w6:=h8.k.cell 6;have wf:=h8.k.frozen;have q0:X9.cell? (qh p 0)=qj 5:=by rw[ac.cell];rfl
  have q1:X9.cell? (qh p 1)=qj f2:=by rw[ac.cell];rfl
  have r0:=af.two';have HE:=zh$ HT.trans$ if_pos rfl;have HZ:=zh$ xA (xA h9 R9)$ xA af ak;have b3:=zh aj;clear Q1 Q2 Q3 kC kR E H h7 y a2 I D a1 a9 S W eF eC x m8 h8 R6 R8 R9 o8 h9 T9 aj ac af ak g1 g2 HT a4 HQ ai ag ah;go_wp2_with (first|rw[<-am.o]|rw[<-b3.o])
  exact aH9 rfl rfl HZ.1 HZ.2.1 HZ.2.2 aQ hg HE
 .have h8:=h7.1.bx H gE Ja I;have R8:=pA h7.2 I H;have bk:X8.cell? (qh p 1)=qj f2:=by rw[D.cell];rfl
  have r0:=S.two';have HE:=zh$ HT.trans$ if_neg c5;have HZ:=zh$ xA (xA h8 R8)$ xA S W;have bi:(f1==5)=false:=by simpa using c5
  clear Q1 Q2 Q3 kC kR E H h7 y a2 I D a1 a9 S W h8 R6 R8 g1 g2 HT a4 HQ ai ag ah c5;go_wp2_with (rw[<-am.o])
  exact aH9 rfl rfl HZ.1 HZ.2.1 HZ.2.2 aQ hg HE
theorem Cv.apart (h:Cv C L){i k:Nat}(f:k<C.lz.length)(d:i<k):L.slots.getD i 0+(slz C.cw:Int)<=L.slots.getD k 0:=by
 let⟨⟨a,b⟩,_,hs,l,_⟩:=h.cf;let⟨p,s,t⟩:=gS a b;have e:lkL C.ps C.cs C.cw C.ck C.cd=lay C.ps C.cs C.cw C.ck:=by unfold lkL;rw[if_pos h.k]
 have q:∀j,j<C.lz.length->L.slots.getD j 0=slt C.ps C.cw C.ck j:=λj g=>by rw[h.e,e];simp[lay,xB,show j<C.cs.toNat from J]
 rw[q k f,q i J];unfold slt;have:((i+1:Nat):Int)*rnd (4*C.cw)<=(k:Int)*rnd (4*C.cw):=Int.mul_le_mul_of_nonneg_right J J
 grind
def aS7 {xs:List SlT}{j:Nat}(f:j<xs.length)(hu:usd m b (xs.getD j zSl)):slq xs m b<=j/\usd m b (xs.getD (slq xs m b) zSl):=by
 let⟨s1,_,s3⟩:=nZ m b xs 0;have d:gW m b 0 xs≠-1:=λe=>s1 e j f hu;let⟨k,e,i,a⟩:=aLb xs 0 d
 have g:slq xs m b=k:=by
  unfold slq hld;rw[if_neg d];omega
 rw[g];refine⟨?_,a⟩;rcases Nat.lt_or_ge j k with q|q
 .exact absurd hu (s3 j J)
 .exact q
theorem Cv.ent {t:Int}(h:Cv C L)(W:C.tn<1000000000)(d:0<=pcq C.ps m b):Cv (dG C L m b t) L:=by
 unfold dG;have y:∀x,(C.kz.set 7 x).length=8:=λx=>by rw[List.length_set];exact h.g
 split
 .rename_i K;have hs:=mO (xs:=C.lz) m b K.1;have:=h.slot hs;have:=aTk C.ps C.cw m b;have w:=nR C.rz (L.slots.getD (slq C.lz m b) 0-65536).toNat (bkb C.ps C.cw m b) J;have E:0<=b:=by unfold pcq at d;grind
  have g:=aEy (m:=m) (b:=b) K.1$ C.tn+1;have og:=aEd C.rz (L.slots.getD (slq C.lz m b) 0-65536).toNat$ bkb C.ps C.cw m b;have u:=λj f hu=>aS7 (xs:=C.lz) (m:=m) (b:=b) (j:=j) f hu;have N:=λj=>h.apart (i:=slq C.lz m b) (k:=j);have q:=λj=>h.apart (i:=j) hs;have D:=h.s.2;have:=h.t;have l:=λi hi=>h.slot (i:=i) hi;refine⟨h.k,h.e,?_,?_,y _,⟨?_,λi hi=>?_⟩,⟨d,.inr$ .inr ?_⟩,?_⟩
  .show mok _ (ovr _ _ _).length _=true;rw[w];exact h.b
  .show(((ovr _ _ _).length:Nat):Int)=L.ram;rw[w];exact h.r
  .show(((C.lz.set _ _).length:Nat):Int)=C.cs;rw[List.length_set];exact h.s.1
  .dsimp only at hi⊢;rw[List.length_set]at hi;generalize slq C.lz m b=s at *
   have e:∀k,k<C.lz.length->(C.lz.set s (true,m,b,C.tn+1)).getD k zSl=if s=k then (true,m,b,C.tn+1) else C.lz.getD k zSl:=λk A=>by
    simp only[xB,List.getElem?_set];split<;>simp_all
   have I:∀j,j<C.lz.length->slb (ovr C.rz (L.slots.getD s 0-65536).toNat$ bkb C.ps C.cw m b) L C.cw j=if s=j then bkb C.ps C.cw m b else slb C.rz L C.cw j:=λj f=>by
    unfold slb;refine List.ext_getElem? λp=>?_;have:=l j f;have:=N j f;have:=q j;rw[List.getElem?_take];by_cases a:p<slz C.cw
    .rw[if_pos a,List.getElem?_drop,og _ J];by_cases c2:s=j
     .subst c2;rw[if_pos J,if_pos rfl];congr 1;omega
     .rw[if_neg c2,if_neg J,List.getElem?_take,if_pos a,List.getElem?_drop]
    .rw[if_neg a];by_cases c2:s=j
     .rw[if_pos c2,List.getElem?_eq_none J]
     .rw[if_neg c2,List.getElem?_take,if_neg a]
   let⟨B,G,O⟩:=D i hi;refine⟨?_,λk A=>?_,?_⟩
   .rw[e i hi];split
    .exact .inr ⟨rfl,E,d,by show 1<=C.tn+1;omega,by show C.tn+1<=C.tn+1;omega⟩
    .rcases B with o|⟨P,Q,S,H,X⟩
     .exact .inl o
     .exact .inr ⟨P,Q,S,H,J⟩
   .rw[e i hi,e k J];have M:=(D k J).1;have:=G k A;have:=u i hi;have:=u k J;have:s<i->¬cmn (C.lz.getD i zSl) (C.lz.getD s zSl):=G s;unfold slk at B M;unfold cmn at *
    grind
   .rw[e i hi,I i hi];split
    .intro _;rfl
    .exact O
  .show hld (C.lz.set _ _) m b≠-1;rw[g];omega
  .show 0<=C.tn+1/\C.tn+1<=1000000000;omega
 .rename_i K;refine⟨h.k,h.e,h.b,h.r,y _,h.s,⟨d,?_⟩,h.t⟩;have:=h.s.1;show C.cs=0\/b=-1\/_
  grind
structure Vmc (C:Cn)(L:Lay):Prop where
 v:Cv C L
 p:wrd C.pc
 z:∀z∈C.kz,wrd z
 h:lB C.ps C.cd C.hz
 f:imF C.ps L=C.fz
 q:vF C.ps L
def Vmc.cd (h:Vmc C L):C.cd<=100:=by
 have d:=(dX.1 h.v.k).1;unfold cfo at d;simp at d;omega
section
variable {C:Cn}{Y:Lyb}{w:qw}{m b t d n:Int}
def Vmc.set {x:Int}(h:Vmc C Y.L)(hx:wrd x):Vmc { C with kz:=C.kz.set 7 x } Y.L:=
 ⟨⟨h.v.k,h.v.e,h.v.b,h.v.r,by rw[List.length_set];exact h.v.g,h.v.s,h.v.n,h.v.t⟩,h.p,λz a=>by
  rcases List.mem_or_eq_of_mem_set a with q|q
  .exact h.z z q
  .rw[q];exact hx,h.h,h.f,h.q⟩
def Vmc.ent (h:Vmc C Y.L)(g:Y.T w)(l:C.tn<1000000000)(f:tgk C.ps m b t):Vmc (dG C Y.L m b t) Y.L:=by
 have d:=mR (s:=0) g h.v.cf.2.2.2.2 f.1;have:=d.w;have:=d.d;have:=aEf h.v.cf.2.2.2.2 f.1;have e:=h.v.ent (t:=t) l f.1
 have a:∀z∈C.kz.set 7 (plc C.ps m.toNat).data,wrd z:=λz a=>by
  rcases List.mem_or_eq_of_mem_set a with q|q
  .exact h.z z q
  .rw[q];unfold wrd;omega
 have hs:=λK=>h.v.slot$ mO (xs:=C.lz) m b K;unfold dG at e⊢;split at e
 .rename_i K;rw[if_pos K];refine⟨e,?_,a,h.h,h.f,h.q⟩;have:=hs K.1;show wrd$ eE _ _ b ((slq C.lz m b:Nat):Int)+4*t;unfold eE wrd;rw[if_neg K.2,if_neg J,Int.toNat_natCast];omega
 .rename_i K;rw[if_neg K];refine⟨e,?_,a,h.h,h.f,h.q⟩;show wrd$ eE _ _ b (-1)+4*t;unfold wrd;omega
theorem Vmc.cal (h:Vmc C Y.L)(f:Y.T w)(e:gC C Y.L m b t=0):Vmc (vD C Y.L m b t) Y.L:=by
 unfold gC at e;split at e
 .rename_i c;split at e
  .rename_i c2;refine Vmc.ent ⟨⟨h.v.k,h.v.e,h.v.b,h.v.r,h.v.g,h.v.s,h.v.n,h.v.t⟩,h.p,h.z,?_,h.f,h.q⟩ f c.2.1 c.2.2;have a:=of_decide_eq_true c.1
   have l:wrd (C.kz.getD 7 0):=by
    have:=h.v.g;rw[show C.kz.getD 7 0=C.kz[7]'J by grind];exact h.z _$ List.getElem_mem _
   have d:=h.v.n.1;refine⟨?_,λi hi=>?_⟩
   .show(((C.hz++[_]).length:Nat):Int)<=C.cd;rw[List.length_append,List.length_singleton];omega
   .have o:=h.h.2;show frk C.ps$ (C.hz++[_]).getD i zFr;by_cases q:i<C.hz.length
    .rw[show(C.hz++[(C.md,C.bk,awy C Y.L C.pc/4,C.kz.getD 7 0)]).getD i zFr=C.hz.getD i zFr by grind];exact o i q
    .have p:i<(C.hz++[(C.md,C.bk,awy C Y.L C.pc/4,C.kz.getD 7 0)]).length:=hi;rw[show(C.hz++[(C.md,C.bk,awy C Y.L C.pc/4,C.kz.getD 7 0)]).getD i zFr=(C.md,C.bk,awy C Y.L C.pc/4,C.kz.getD 7 0)by grind];exact⟨⟨d,by show 0<=awy C Y.L C.pc/4;omega,a.2.2⟩,l⟩
  .cases e
 .cases e
theorem Vmc.ret (h:Vmc C Y.L)(g:Y.T w)(l:C.tn<1000000000)(hn:C.hz.length≠0):Vmc (mQ C Y.L) Y.L:=by
 have f:=h.h.2 (C.hz.length-1) J;refine Vmc.set (Vmc.ent (C:=aR5 C) ⟨⟨h.v.k,h.v.e,h.v.b,h.v.r,h.v.g,h.v.s,h.v.n,h.v.t⟩,h.p,h.z,⟨?_,λi hi=>?_⟩,h.f,h.q⟩ g l f.1) f.2
 .have:=h.h.1;show(((C.hz.take _).length:Nat):Int)<=C.cd;rw[List.length_take];omega
 .have e:i<(C.hz.take$ C.hz.length-1).length:=hi;rw[List.length_take]at e;show frk C.ps$ (C.hz.take$ C.hz.length-1).getD i zFr;rw[show(C.hz.take$ C.hz.length-1).getD i zFr=C.hz.getD i zFr by grind];exact h.h.2 i J
def Vmc.cld (h:Vmc C Y.L)(e:Y.T w):Vmc (cld C Y.L d m b t).2.2 Y.L:=by
 unfold Go.Proofs.YtdjdcdnjjmjonaaGreat.cld;split
 .exact h.cal e (by assumption)
 .exact h
def Vmc.flw (h:Vmc C Y.L)(e:Y.T w)(f:C.tn<1000000000):Vmc (flw C Y.L d n).2.2 Y.L:=by
 unfold Go.Proofs.YtdjdcdnjjmjonaaGreat.flw
 repeat' split
 all_goals first
  | exact h
  | exact h.cld e
  | exact h.ret e f$ And.right (by assumption)
def Vmc.tk (h:Vmc C Y.L)(e:Y.T w)(k:Stk (C.z Y.L) C.pc C.kz (C.r Y.L)):Vmc (tkR C Y.L).2.2 Y.L:=by
 have hs:Vmc (C.n Y.L) Y.L:=⟨h.v.stp k,k.w,k.g,h.h,by rw[show(C.n Y.L).fz=(C.r Y.L).x1 from rfl,k.a];exact h.f,h.q⟩;unfold tkR;split
 .split
  .exact h
  .exact hs.flw e (by assumption)
 .exact h
end
def rnF (L:Lay):Nat->Int->Cn->Int×Int×Int×Cn
 | 0,u,C=>(3,0,u,C)
 | n+1,u,C=>if (tkR C L).1=1 then (1,(tkR C L).2.1,u+1,(tkR C L).2.2) else if (tkR C L).1=5 then (2,(tkR C L).2.1,u+1,(tkR C L).2.2) else rnF L n (u+1) (tkR C L).2.2
abbrev zOc:Array Value:=#[qI 0,qI 0,qI 0,qS none 0 0]
abbrev stO (W:qw)(q:Nat)(i j k:Int)(v:Value):qw:=(((W.setCell (qR q 0) (qI i)).setCell (qR q 1) (qI j)).setCell (qR q 2) (qI k)).setCell (qR q 3) v
def RnP (w1 w:qw)(G:Nat)(Y:Lyb)(v13:Value)(r:Int×Int×Int×Cn)(e:Ending)(w':qw):Prop:=e=.returned (.agg #[qI r.1,qI r.2.1,qI r.2.2.1,qS none 0 0])/\Mr w1 w' G Y r.2.2.2 v13/\Vmc r.2.2.2 Y.L/\Kb w w'
section
variable {w1 w W:qw}{G q:Nat}{Y:Lyb}{C D:Cn}{v13:Value}
def aIt {Q:Ending->World->Prop}(g:fn.results=#[.cell a 51])(ha:tmps[a]?=some (.pointer$ qP q))(l:Blk W q #[u0,u1,u2,u3] 51)(f:Turn (λj=>j=q) W (stO W q i j k v)->Q (.returned$ .agg #[qI i,qI j,qI k,v]) (stO W q i j k v)):bodyPost Tryz.prog fn Q Exit.ret ⟨tmps,[]⟩ (stO W q i j k v):=by
 have e:=(((l.set 0$ qI i).set 1$ qI j).set 2$ qI k).set 3 v;have e0:(stO W q i j k v).cell? (qR q 0)=qj i:=by rw[e.cell];rfl
 have e1:(stO W q i j k v).cell? (qR q 1)=qj j:=by rw[e.cell];rfl
 have e2:(stO W q i j k v).cell? (qR q 2)=qj k:=by rw[e.cell];rfl
 have e3:(stO W q i j k v).cell? (qR q 3)=some v:=by rw[e.cell];rfl
 exact bodyPost_ret_by (v:=.agg #[qI i,qI j,qI k,v]) (by simp[results,g,go_sem,ha,e0,e1,e2,e3]) rfl$ f$ (((aK W q 0$ qI i).trans$ aK _ q 1$ qI j).trans$ aK _ q 2$ qI k).trans$ aK _ q 3 v
def aIs {r:Int×Int×Int×Cn}(l:fn.results=#[.cell a 51])(ha:tmps[a]?=some (.pointer$ qP q))(h:Mr w1 W G Y D v13)(f:Blk W q #[u0,u1,u2,u3] 51)(g:Vmc D Y.L)(p:Kb w W)(s:w.heap.size<=q)(u:G<w.heap.size)(e:r=(i,j,k,D)):bodyPost Tryz.prog fn (RnP w1 w G Y v13 r) Exit.ret ⟨tmps,[]⟩ (stO W q i j k$ qS none 0 0):=
 let⟨M,A,y,x⟩:=h
 aIt l ha f (λT=>by
  subst e
  exact⟨rfl,⟨M,A,y.bx f J Ja T,pA x T f⟩,g,λk d t n b=>aC T (p k d t n b) λe=>jK b.lt⟩)
end
def aMw (b G Y C a)(N:Nat)(w)(h:Mr b w G Y C a)(V:Vmc C Y.L)(hN:N<=2000):qC 52 #[.pointer$ qP G,qI (N:Nat)] w (RnP b w G Y a$ rnF Y.L N 0 C):=by
 have Z:G<w.heap.size:=by obtain⟨M,P,h,_⟩:=h;exact h.k.lt
 let⟨U,hU,bU,kU⟩:=nwb w zOc 51;have j:=zh hU;have O:=zh (show Mr b U G Y C a/\Kb w U/\Blk U w.heap.size zOc 51 from⟨by obtain⟨M,P,q⟩:=h;exact⟨M,P,eG q bU⟩,bR bU,kU⟩);have t:=zh V;clear h V hU bU kU
 delta qC;go_in
 go_wp2_with (rw[<-j.o])
 go_loopw [5] (λv wr=>∃(k:Nat) (D:Cn),k<=N/\v=qI ((k:Int)+1)/\rnF Y.L N 0 C=rnF Y.L (N-k) k D/\Mr b wr G Y D a/\Vmc D Y.L/\Kb w wr/\Blk wr w.heap.size zOc 51) (λv _=>N+1-(intOf v).toNat)
 .exact⟨0,C,xC _,rfl,rfl,O.1,t,O.2⟩
 .obtain⟨k,D,hk,rfl,H,⟨M,P,B,I⟩,p,s,f⟩:=hrel;have o0:=f.cell 0;have o1:=f.cell 1;have o2:=f.cell 2;have o3:=f.cell 3;have of:=f.frozen;by_cases c:k<N
  .have c':(k:Int)+1<=(N:Int):=J
   obtain⟨A,cc,rfl⟩:=mU I.choose_spec.1;let⟨a3,aN,Ls,β,m,_⟩:=B.m;have HT:=zh$ aNx b G Y D M a A _ cc wr B I p.v p.p p.z p.cd p.h.2;have x:=p.tk B.l$ aDo (C:=D.z Y.L) p.p p.v.g p.z m.q.1.2 m.q.2.1.2 rfl p.v.b;rw[show N-k=N-(k+1)+1 from J,rnF]at H;generalize tkR D Y.L=r at *;obtain⟨d,n,E⟩:=r;dsimp only at H x;have u:=zh$ xA H$ xA x$ xA s f;clear H x s f B I p m O t j;go_wp2_with fail
   apply HT.mono;rintro e X ⟨rfl,hm,kb⟩;dsimp only at hm;have S:=kb _ _ _ Jg u.2.2.2;let⟨X1,a0,i,k1⟩:=nwb X #[qI d,qI n] 80;have g:=S.bw i;clear o0 o1 o2 o3 of;have o0:=g.cell 0;have o1:=g.cell 1;have o2:=g.cell 2;have o3:=g.cell 3;have of:=g.frozen;have l:=zh (show Mr b X1 G Y E a/\Blk X1 w.heap.size zOc 51/\Kb w X1 from⟨by obtain⟨M',a2,q⟩:=hm;exact⟨M',a2,eG q i⟩,g,(u.2.2.1.trans kb).trans$ bR i⟩);have:=k1.two';have W:=zh a0;have a1:w.heap.size≠X.heap.size:=by have:=S.lt;omega
   have:=a1.symm;clear hm kb S a0 i k1 g HT;by_cases K:d=1
   .subst K;have y:=zh$ u.1.trans$ if_pos rfl;go_wp2_with (rw[<-W.o])
    exact aIs rfl rfl l.1 l.2.1 u.2.1 l.2.2 aQ Z y
   .by_cases Q:d=5
    .subst Q;have y:=zh$ u.1.trans$ (if_neg K).trans$ if_pos rfl;go_wp2_with (rw[<-W.o])
     exact aIs rfl rfl l.1 l.2.1 u.2.1 l.2.2 aQ Z y
    .have y:=zh$ u.1.trans$ (if_neg K).trans$ if_neg Q;have:(d==1)=false:=by simpa using K
     have:(d==5)=false:=by simpa using Q
     clear K Q;go_wp2_with (rw[<-W.o])
     go_roundw
     .exact⟨k+1,E,J,by go_num,y,l.1,u.2.1,l.2.2,l.2.1⟩
     .simp[intOf];omega
  .obtain rfl:k=N:=J
   have c':¬(k:Int)+1<=(k:Int):=J
   have y:=zh (H.trans (show rnF Y.L (k-k) k D=(3,0,(k:Int),D)by rw[Nat.sub_self];rfl));have l:=zh$ xA (show Mr b wr G Y D a from⟨M,P,B,I⟩)$ xA f$ xA p s;clear H B I p s f O t j;go_wp2;exact aIs rfl rfl l.1 l.2.1 l.2.2.1 l.2.2.2 aQ Z y
def aXq (Z){cb co:Nat}(w)(ha:Z.ca=some (qR cb co))(H:Zi w Z)(hc:cok Z.pc 8 Z.rg=true)(hm:mok Z.n1 Z.n2 Z.n3=true):
 qC 75 #[.agg Z.c,.agg Z.m,qS Z.ra Z.rn Z.rc] w (StQ w$ spz Z.toCy Z.pc Z.rg):=by
 obtain⟨p0,p1,_,hz⟩:=iO hc;have hn:Z.n1+Z.n2+Z.n3<=1048576:=jK$ uO hm;have HC:=zh λw h=>rN Z.pc Z.ca 8 Z.cc Z.rg w h;have HM:=zh λw=>lJ Z.a1 Z.a2 Z.a3 Z.n1 Z.c1 Z.n2 Z.c2 Z.n3 Z.c3 w;rw[hc]at HC;rw[hm]at HM;have bo:=zh λw h=>qE Z.ra Z.rn Z.rc Z.rs Z.pc 4 3 w h ⟨J,J⟩;have am:=zh λw u Q=>sRd Z.a1 Z.a2 Z.a3 Z.n1 Z.c1 Z.n2 Z.c2 Z.n3 Z.c3 Z.x1 Z.x2 Z.pc 4 w u Q p0 p1
 have aa:Zh (∀w,IS w Z.ca 8 Z.cc Z.rg->qC 71 #[.agg Z.c] w (fQ w Z.pc 8 Z.rg)):=λw h=>by
  unfold Zt.c;rw[ha]at h⊢;exact zC Z.pc cb co 8 Z.cc Z.rg w h J
 have ac:=zh λw u Q h3=>tE Z.a1 Z.a2 Z.a3 Z.n1 Z.c1 Z.n2 Z.c2 Z.n3 Z.c3 Z.x1 Z.x2 Z.x3 w u Q h3 hn;obtain⟨r,g⟩:=aO$ spz Z.toCy Z.pc Z.rg;rw[<-g];unfold spz fez Cy.al Cy.rd at g;generalize alw Z.rs Z.rn Z.pc 4 3=AL at *;generalize rd Z.n1 Z.n2 Z.n3 Z.x1 Z.x2 Z.pc 4=R at *;obtain⟨x,q⟩:=R;dsimp only at g am;have HR:=zh g;have HZ:=zh H;have ba:=zh hz;have HA:=zh ha;have hl:=H.c.1;have HG:=zh (λj:Int=>λ(h:0<=j/\j<=7)=>hz (Z.rg.getD j.toNat 0) (by rw[xB,xN$ show j.toNat<Z.rg.length from J];exact List.getElem_mem _));have HD:=zh λw=>aF6 x w;obtain⟨W,hW⟩:=aO$ (((w.alloc$ .cells Z.c 38).alloc$ .cells Z.m 39).alloc$ .cells zCo 38).alloc$ .cells zMe 39;have S:qY w W:=by rw[hW];exact((bal.alloc Jb _).alloc Jc _).alloc Jc _
 have k0:=(((Blk.new w Z.c 38).alloc$ .cells Z.m 39).alloc$ .cells zCo 38).alloc$ .cells zMe 39;have k1:=((Blk.new (w.alloc$ .cells Z.c 38) Z.m 39).alloc$ .cells zCo 38).alloc$ .cells zMe 39;have k2:=(Blk.new ((w.alloc$ .cells Z.c 38).alloc$ .cells Z.m 39) zCo 38).alloc$ .cells zMe 39;have k3:=Blk.new (((w.alloc$ .cells Z.c 38).alloc$ .cells Z.m 39).alloc$ .cells zCo 38) zMe 39;simp only[xF]at k1 k2 k3;rw[<-hW]at k0 k1 k2 k3;have Z0:=H.bw S;clear g H hc hm hz hl ha;obtain⟨e1,e2,e3⟩:=k0.two';go_enter Tryz.func75,Tryz.ntmps75
 go_wp2_with fail
 rw[<-hW];clear hW;apply(aa.o _ Z0.c).mono;rintro e G ⟨ca,cp,rfl,oC,I⟩;have O:qY W (G.alloc$ .cells #[qI Z.pc,qS ca 8 cp] 38):=I.alloc I.size _;have kA:=Blk.new G #[qI Z.pc,qS ca 8 cp] 38;have an:=(k3.bw I).lt;have f1:=(k1.bw I).three;have b8:=(k1.bw I).lt;have Z1:=Z0.bw O;clear e1 e2 e3;go_wp2_with fail
 apply(ac.o _ Z1.m Z1.n Z1.o).mono;rintro e M ⟨g1,d1,g2,d2,g3,d3,rfl,mM,P⟩;have a7:qY (G.alloc$ .cells #[qI Z.pc,qS ca 8 cp] 38) (M.alloc$ .cells (qV g1 Z.n1 d1 g2 Z.n2 d2 g3 Z.n3 d3) 39):=P.alloc P.size _;have bb:=O.trans$ a7.mono O.size
 have SS:Shy w Z G.heap.size M.heap.size (Z.toCy.go 0 0 Z.pc Z.rg) (qS ca 8 cp) (qS g1 Z.n1 d1) (qS g2 Z.n2 d2) (qS g3 Z.n3 d3) (M.alloc$ .cells (qV g1 Z.n1 d1 g2 Z.n2 d2 g3 Z.n3 d3) 39):=
  ⟨S.trans$ bb.mono S.size,k0.bw bb,k1.bw bb,k2.bw bb,k3.bw bb,kA.bw a7,Blk.new M _ _,an,(by have:=P.size;simp at this;omega),((oC.bw bal).bw a7).mono S.size,fT (fU mM _)$ jL S.size O.size,Z0.bw bb⟩
 have c8:w.heap.size<M.heap.size:=by have:=P.size;simp at this;omega
 obtain⟨e1,e2,e3⟩:=((k0.bw O).bw P).two';clear S k0 k1 k2 k3 Z0 Z1 oC I O kA an f1 mM P a7 bb b8;obtain⟨rb,rfl⟩:=mV SS.oc J;go_wp2_with fail
 apply(HC.o _ SS.i.c).mono;rintro e w3 ⟨rfl,b⟩;replace SS:=SS.step b;clear b e1 e2 e3;have f1:=SS.k1.three;go_wp2_with fail
 apply(HM.o _).mono;rintro e w4 ⟨rfl,b⟩;replace SS:=SS.step b;clear b f1;obtain⟨e1,e2,e3⟩:=SS.k0.two';go_wp2_with fail
 apply(bo.o _ SS.i.r).mono;rintro e w5 ⟨rfl,b⟩;replace SS:=SS.step b;clear b e1 e2 e3;cases AL
 focus
  have g:=HR.o;clear HR;simp only[Bool.false_eq_true,reduceIte,show ¬((5:Int)=0)from J]at g;subst g;have y:=SS.did 5 5;clear SS
 rotate_left
 focus
  obtain⟨e1,e2,e3⟩:=SS.k0.two';have f1:=SS.k1.three;go_wp2_with fail
  apply(am.o _ SS.i.m.bs SS.i.n.bs).mono;rintro e w6 ⟨rfl,b⟩;replace SS:=SS.step b;clear b e1 e2 e3 f1;by_cases hq:q=0
  rotate_left
  focus
   have g:=HR.o;clear HR;simp only[reduceIte,hq]at g;subst g;have bz:(q !=0)=true:=by simpa using hq
   have y:=SS.did 5 q;clear SS
  rotate_left
  focus
   subst hq;go_wp2_with fail
   apply(HD.o _).mono;intro e V hd;unfold oH gL at hd;have g:=HR.o;clear HR HD;cases B:dOk x
   focus
    rw[B,if_neg Jb]at hd;obtain⟨rfl,b⟩:=hd;have y:=(SS.step$ b.alloc b.size$ .cells (qW 0 0 0 0) 186).did 5 6;simp only[B,Bool.false_eq_true,reduceIte,show ¬((6:Int)=0)from J]at g;subst g;clear b SS B
   rotate_left
   focus
    rw[B,if_pos rfl]at hd;obtain⟨rfl,b⟩:=hd;obtain⟨cg,ch⟩:=aJw B;simp only[B,reduceIte]at g;clear B;obtain⟨au,av⟩:0<=x/8388608%8/\x/8388608%8<=7:=J
    obtain⟨ag,ah⟩:0<=x/1048576%8/\x/1048576%8<=7:=J
    obtain⟨a0,a1⟩:0<=x%65536/\x%65536<=65535:=J
    generalize x/67108864=o at *;generalize x/8388608%8=d at *;generalize x/1048576%8=a at *;generalize x%65536=i at *;have kI:=Blk.new V (qW o d a i) 186;have hI:M.heap.size<V.heap.size:=jL SS.kB.lt b.size;replace SS:=SS.step$ b.alloc b.size$ .cells (qW o d a i) 186;clear b;have ad:=zh λw=>dQ (Z.pc+4) w ⟨J,J⟩;obtain⟨nx,a9⟩:=aO$ m32$ Z.pc+4;unfold m32 at a9;rw[<-a9]at ad;have bn:0<=nx:=J
    have b2:nx<=4294967295:=J
    have a6:=zh λw=>aG5 o d a i nx w a0 a1 bn b2;obtain⟨E,hE⟩:=aO$ ev o i nx;rw[<-hE]at a6;obtain⟨D,N⟩:=E;dsimp only at a6;have a8:=zh a9;have HE:=zh hE;have K:=zh g;clear a9 hE g;obtain⟨e1,e2,e3⟩:=SS.k0.two';go_wp2_with fail
    apply(ad.o _).mono;rintro e w8 ⟨rfl,rfl⟩;have j1:=kI.four';go_wp2_with fail
    apply(a6.o _).mono;rintro e w9 ⟨rfl,b⟩;replace SS:=SS.step b;replace kI:=kI.bw b;clear b e1 e2 e3 j1 ad a6;have j1:=kI.four';by_cases hM:14<=o/\o<=19
    focus
     obtain⟨bp,bq⟩:=hM
     obtain⟨rfl,rfl⟩:D=0/\N=0:=by
      have:=HE.o;unfold ev at this;rw[if_neg J,if_neg J,if_neg J,if_neg J]at this;injection this with u Q
      exact⟨u,Q⟩
     obtain⟨k,hk⟩:∃k:Nat,o=(k:Int)+14:=⟨(o-14).toNat,J⟩;have ab:=zh λW u Q h3 hb=>sMm k J Z.toCy o d a i Z.pc rb cp Z.rg g1 g2 g3 Z.ra d1 d2 d3 Z.rc w.heap.size W hk u Q h3 ba.o hn hb au av ag ah a0 a1;have HO:=zh$ aSd Z.toCy o d a i Z.pc Z.rg ⟨bp,bq⟩;unfold m32 at HO;rw[<-K.o]at ab HO;rw[<-a8.o]at HO;clear K hk HE;obtain⟨rd,rm,rp,rr,y1,y2,y3⟩:=r;obtain⟨Y,u2,u3⟩:=SS.kA.two';have s1:=SS.kB.three;go_wp2_with fail
     apply(ab.o _ SS.oc SS.om SS.i.r SS.b.size).mono;rintro e A ⟨ak,m1,l1,aq,m2,l2,ar,m3,l3,rfl,oN,mN,tN⟩;have l:=SS.mem (r':=⟨rd,rm,Z.pc,rr,y1,y2,y3⟩) HZ.o tN oN mN rfl;have cc:=SS.hB;have b9:G.heap.size≠M.heap.size:=J
     have c1:=b9.symm;obtain⟨v1,v2,v3⟩:=(aC tN SS.kA λe=>jP SS.oc SS.kA Ja e).two';have v4:=(aC tN SS.kB λe=>jP SS.oc SS.kB Ja e).three;unfold gT kH at l;clear tN oN mN SS Y u2 u3 s1 j1 kI ab;rcases HO.o with⟨h0,u,Q⟩|⟨f,hf,he⟩
     focus
      subst h0 u Q;have y:=l.setpc HZ.o rp;obtain⟨X,t⟩:=aO$ (((((A.setCell (qR G.heap.size 0)$ qI Z.pc).setCell (qR G.heap.size 1)$ qS (qP rb) 8 cp).setCell (qR M.heap.size 0)$ qS ak m1 l1).setCell (qR M.heap.size 1)$ qS aq m2 l2).setCell (qR M.heap.size 2)$ qS ar m3 l3).setCell (qR G.heap.size 0)$ qI rp;rw[<-t]at y;clear l HO;go_wp2_with fail
      rw[<-t];clear t v1 v2 v3 v4
     rotate_left
     focus
      have hF:(f !=0)=true:=by simpa using hf
      injection he with i1 i2 i3 i4 i5 i6 i7
      subst i1 i2 i3 i4 i5 i6 i7;obtain⟨X,t⟩:=aO$ ((((A.setCell (qR G.heap.size 0)$ qI Z.pc).setCell (qR G.heap.size 1)$ qS (qP rb) 8 cp).setCell (qR M.heap.size 0)$ qS ak m1 l1).setCell (qR M.heap.size 1)$ qS aq m2 l2).setCell (qR M.heap.size 2)$ qS ar m3 l3;rw[<-t]at l;go_wp2_with fail
      rw[<-t];clear t v1 v2 v3 v4 HO;have c9:=l.k3.lt;have t1:=l.k0.two';have s1:=l.k1.three;have a5:=l.b.size;obtain⟨q1,q2,q3,q4,q5,q6,q7,q8,q9,cj⟩:w.heap.size≠w.heap.size+1+1/\w.heap.size≠w.heap.size+1+1+1/\w.heap.size+1≠w.heap.size+1+1/\w.heap.size+1≠w.heap.size+1+1+1/\w.heap.size+1+1≠w.heap.size+1+1+1/\w.heap.size+1+1≠w.heap.size/\w.heap.size+1+1+1≠w.heap.size/\w.heap.size+1+1≠w.heap.size+1/\w.heap.size+1+1+1≠w.heap.size+1/\w.heap.size+1+1+1≠w.heap.size+1+1:=J
      go_region_held3 (λC=>C.cell? (qR w.heap.size 0)=some (qI Z.pc)/\C.cell? (qR w.heap.size 1)=some (qS Z.ca 8 Z.cc)/\C.cell? (qR (w.heap.size+1) 0)=some (qS Z.a1 Z.n1 Z.c1)/\C.cell? (qR (w.heap.size+1) 1)=some (qS Z.a2 Z.n2 Z.c2)/\C.cell? (qR (w.heap.size+1) 2)=some (qS Z.a3 Z.n3 Z.c3)) (go_keep)
       (first
         | (go_at_call 71;refine(aa.o _ (by exact l.i.c)).mono ?_;rintro e Y ⟨bc,b4,rfl,oC,bx⟩;replace bx:=aU bx;have t1:=(l.k0.bw bx).two';have s1:=(l.k1.bw bx).three)
         | (go_at_call 72;refine(ac.o _ (l.i.m.bw bx) (l.i.n.bw bx)$ l.i.o.bw bx).mono ?_;rintro e u2 ⟨i1,q1,i2,q2,i3,q3,rfl,b3,a3⟩;have U:=bx.trans$ a3.mono bx.size;have oF:=OI.mono (OI.bw (by exact oC) a3) a5;have mF:=fT b3$ xM a5 bx.size;have t1:=(l.k0.bw U).two';have s1:=(l.k1.bw U).three;have z1:=(l.k2.bw U).two';have z4:=(l.k3.bw U).three)
         | (go_at_call 72;refine(ac.o _ (by exact l.i.m) (by exact l.i.n) (by exact l.i.o)).mono ?_;rintro e Y ⟨i1,q1,i2,q2,i3,q3,rfl,mM,bx⟩;replace bx:=aU bx;have t1:=(l.k0.bw bx).two';have s1:=(l.k1.bw bx).three)
         | (go_at_call 71;refine(aa.o _$ l.i.c.bw bx).mono ?_;rintro e u2 ⟨bc,b4,rfl,bh,a3⟩;have U:=bx.trans$ a3.mono bx.size;have mF:=fT (aY (by exact mM) a3) a5;have oF:=bh.mono$ xM a5 bx.size;have t1:=(l.k0.bw U).two';have s1:=(l.k1.bw U).three;have z1:=(l.k2.bw U).two';have z4:=(l.k3.bw U).three))
      all_goals
       obtain⟨ck,rfl⟩:=mV oF J;have s:=zh$ xA oF$ xA mF$ xA (l.k2.bw U)$ xA (l.k3.bw U)$ l.b.trans$ U.mono l.b.size;clear oF mF U l;go_wp2_with fail
       first|exact aDn s.o.1 s.o.2.1 s.o.2.2.1 s.o.2.2.2.1 s.o.2.2.2.2 rfl rfl rfl rfl (.inl rfl) (.inl rfl)|exact aDn s.o.1 s.o.2.1 s.o.2.2.1 s.o.2.2.2.1 s.o.2.2.2.2 rfl rfl rfl rfl (.inr rfl)$ .inl rfl
    rotate_left
    focus
     have hl:=SS.i.c.1;have b7:=World.block_lt_of_cell? w _$ (HA.o ▸ HZ.o.c:IS w (some$ qR cb co) 8 Z.cc Z.rg).at d.toNat J;dsimp only at b7;have a2:=zh λX=>λ(h:qY w9 X)=>(HA.o ▸ SS.i.c.bw h:IS X (some$ qR cb co) 8 Z.cc Z.rg);obtain⟨az,b0⟩:=HG.o d ⟨au,av⟩;obtain⟨ax,ay⟩:=HG.o a ⟨ag,ah⟩;have a4:d.toNat<8:=J
     have d8:d<8:=J
     have br:a<8:=J
     have ap:a.toNat<8:=J
     have cd:=(a2.o w9 brf).at d.toNat a4;have ca:=(a2.o w9 brf).at a.toNat ap;have aj:=zh λX h=>(a2.o X h).at d.toNat a4;have bk:=zh λX h=>(a2.o X h).at a.toNat ap;obtain⟨Y,u2,u3⟩:=SS.kA.two';obtain⟨e1,e2,e3⟩:=SS.k0.two';rw[HA.o]at e2;clear hl a2;by_cases hA:2<=o/\o<=13
     focus
      obtain⟨m2,aw⟩:=hA
      obtain⟨rfl,rfl⟩:D=0/\N=0:=by
       have:=HE.o;unfold ev at this;rw[if_neg J,if_neg J,if_neg J,if_neg J]at this;injection this with u Q
       exact⟨u,Q⟩
      have g:=K.o;rw[aEi m2 aw]at g;unfold m32 at g;rw[<-a8.o]at g;have b1:=zh λw=>aM8 o d a i (Z.rg.getD d.toNat 0) (Z.rg.getD a.toNat 0) w m2 aw a0 a1 az b0 ax ay
      obtain⟨v0,v1⟩:0<=alu o i (Z.rg.getD d.toNat 0) (Z.rg.getD a.toNat 0)/\alu o i (Z.rg.getD d.toNat 0) (Z.rg.getD a.toNat 0)<=4294967295:=by
       have:=aFl a0 a1 az b0 ax ay (o-2).toNat J;rw[this.1,show(((o-2).toNat+2:Nat):Int)=o from J]at this;exact this.2
      generalize alu o i (Z.rg.getD d.toNat 0) (Z.rg.getD a.toNat 0)=v at *;generalize Z.rg.getD d.toNat 0=zd at *;generalize Z.rg.getD a.toNat 0=za at *;subst g;clear HE K;obtain⟨ce,kc⟩:=SS.oc.blk;have bu:=(SS.oc.lt rb rfl).1;have bg:rb≠G.heap.size:=λe=>jP SS.oc SS.kA Ja (by rw[<-e];rfl);have bm:rb≠V.heap.size:=λe=>jP SS.oc kI Ja (by rw[<-e];rfl);have b6:rb≠w.heap.size:=λe=>jP SS.oc SS.k0 Ja (by rw[<-e];rfl);have bj:rb≠cb:=J
      have c7:=bg.symm;have c5:=bm.symm;have c0:=b6.symm;have bv:=bj.symm;go_wp2_with fail
      go_region_held3 (λC=>C.cell? (qR G.heap.size 1)=some (qS (qP rb) 8 cp)/\C.cell? (qR V.heap.size 0)=some (qI o)/\C.cell? (qR V.heap.size 1)=some (qI d)/\C.cell? (qR V.heap.size 2)=some (qI a)/\C.cell? (qR V.heap.size 3)=some (qI i)/\C.cell? (qR w.heap.size 1)=some (qS (some$ qR cb co) 8 Z.cc)/\C.cell? (qR cb$ co+d.toNat)=some (qI zd)/\C.cell? (qR cb$ co+a.toNat)=some (qI za)) (go_keep)
       (first|(go_at_call 130;refine(b1.o _).mono ?_;rintro e A ⟨rfl,b⟩;replace b:=aU b;have p:=SS.step b;obtain⟨Y,u2,u3⟩:=p.kA.two';obtain⟨e1,e2,e3⟩:=p.k0.two';rw[HA.o]at e2;have j1:=(kI.bw b).four';have ae:=aj.o _ b;have be:=bk.o _ b;have ao:=p.oc.is.at d.toNat a4;simp only[Nat.zero_add]at ao;have b5:=(kc.bw b).frozen d.toNat))
      all_goals
       have SY:=p.reg HZ.o d.toNat a4 v ⟨J,J⟩;have y:=SY.setpc HZ.o nx;have bl:=SY.kA.two';clear SS p SY Y u2 u3 e1 e2 e3 j1 cd ca ae be ao b5;obtain⟨X,t⟩:=aO$ (A.setCell (qR rb d.toNat)$ qI v).setCell (qR G.heap.size 0)$ qI nx;rw[<-t]at y;go_wp2_with fail
       rw[<-t];clear t bl
     rotate_left
     focus
      have ho:o=1\/20<=o:=J
      have g:=K.o;rw[wQ ho]at g;unfold m32 at g;rw[<-a8.o,<-HE.o]at g;obtain⟨x0,x1⟩:=lE i a0 a1;have HJ:=zh λw=>aG3 o d a i (Z.rg.getD d.toNat 0) w;have bd:=zh λw=>lU i w a0 a1;have HQ:=zh λw=>dQ (nx+4*eA i) w ⟨J,J⟩;obtain⟨tg,af⟩:=aO$ (nx+4*eA i)%4294967296;rw[show(Z.pc+4+4*eA i)%4294967296=tg by rw[af,a8.o];omega]at g;rw[<-af]at HQ
      have hj:D≠0->jmp o (Z.rg.getD d.toNat 0)=false:=λh=>by
       have:=HE.o;unfold ev at this;unfold jmp;by_cases bf:o<=22/\20<=o
       .rw[if_neg J,if_neg J,if_neg J,if_neg J]at this;injection this with u Q
        exact absurd u h
       .simp;omega
      have u:D=0->20<=o:=λh=>by
       have:=HE.o;rcases ho with rfl|ho
       .injection this with u Q
        rw[h]at u;exact absurd u Ja
       .exact ho
      clear af HE K;generalize eA i=xx at *;generalize jmp o (Z.rg.getD d.toNat 0)=bi at *;generalize Z.rg.getD d.toNat 0=zd at *;by_cases hD:D=0
      rotate_left
      focus
       have c3:(D==0)=false:=by simpa using hD
       rw[hj hD,if_neg Jb]at g;subst g;clear hj u;rcases ho with rfl|ho
       all_goals
        go_wp2_with fail
        go_quiet (fail)
       all_goals
        clear Y u2 u3;replace SS:=SS.step$ below_drewN (Below.refl w9.heap.size w9) nq;obtain⟨Y,u2,u3⟩:=SS.kA.two';have y:=(SS.setpc HZ.o nx).did D N;clear SS e1 e2 e3 j1 cd ca;obtain⟨X,t⟩:=aO$ (w9.drewN nq).setCell (qR G.heap.size 0)$ qI nx;rw[<-t]at y;go_wp2_with fail
        rw[<-t];clear t Y u2 u3
      rotate_right
      focus
       have bf:=u hD;subst hD;have ai:=zh g;clear g hj u ho;go_wp2_with fail
       go_region_held3 (λC=>C.cell? (qR V.heap.size 0)=some (qI o)/\C.cell? (qR V.heap.size 1)=some (qI d)/\C.cell? (qR V.heap.size 2)=some (qI a)/\C.cell? (qR V.heap.size 3)=some (qI i)/\C.cell? (qR w.heap.size 1)=some (qS (some$ qR cb co) 8 Z.cc)/\C.cell? (qR cb$ co+d.toNat)=some (qI zd)) (go_keep)
        (first|(go_at_call 131;refine(HJ.o _).mono ?_;rintro e A ⟨rfl,b⟩;replace b:=aU b;have p:=SS.step b;obtain⟨Y,u2,u3⟩:=p.kA.two';obtain⟨e1,e2,e3⟩:=p.k0.two';rw[HA.o]at e2;have j1:=(kI.bw b).four';have ae:=aj.o _ b))
       all_goals
        have g:=ai.o;clear SS e1 e2 e3 cd ca ae ai;cases bi
        focus
         simp only[Bool.false_eq_true,reduceIte]at g;subst g;have y:=(p.setpc HZ.o nx).did 0 N;clear p j1;obtain⟨X,t⟩:=aO$ A.setCell (qR G.heap.size 0)$ qI nx;rw[<-t]at y;go_wp2_with fail
         rw[<-t];clear t Y u2 u3
        rotate_left
        focus
         simp only[reduceIte]at g;subst g;have y:=(p.setpc HZ.o tg).did 0 N;clear p;go_wp2_with fail
         apply(bd.o _).mono;rintro e c6 ⟨rfl,rfl⟩;go_wp2_with fail
         apply(HQ.o _).mono;rintro e c4 ⟨rfl,rfl⟩;clear j1;obtain⟨X,t⟩:=aO$ A.setCell (qR G.heap.size 0)$ qI tg;rw[<-t]at y;go_wp2_with fail
         rw[<-t];clear t Y u2 u3
 all_goals
  have n1:=y.ne;have t1:=y.kA.two';have s1:=y.kB.three;have z1:=y.k2.two';have z4:=y.k3.three;have s:=zh y;clear y;go_wp2_with fail
  go_region
  all_goals
   go_wp2_with fail
   first|exact aDn s.o.oc s.o.om s.o.k2 s.o.k3 s.o.b rfl rfl rfl rfl (.inl rfl) (.inr rfl)|exact aDn s.o.oc s.o.om s.o.k2 s.o.k3 s.o.b rfl rfl rfl rfl (.inr rfl)$ .inr rfl
