import Derived.Test.YtdjdcdnjjmjonaaGreatT18
import Derived.Test.YtdjdcdnjjmjonaaGreatT19
set_option linter.all false
set_option maxHeartbeats 16000000
namespace Go.Proofs.YtdjdcdnjjmjonaaGreat
open Go.RowKit
open Go.Proofs.Tryz
set_option maxRecDepth 100000
variable {C:Cn}{M:Mn}{a q:Nat}{fn:Func}{tmps:Array Value}{x:Value}
abbrev zqM (C:Cn)(M:Mn)(L:Lay)(A:qO)(c aP g:Nat):Mz:={ toCy:=C.z L,g:=g,b:=aP,a1:=M.fa,a2:=M.ra,a3:=M.oa,ra:=A,c1:=M.fc,c2:=M.rc,c3:=M.oc,rc:=c }
def TcP (w1 w:qw)(G:Nat)(Y:Lyb)(v13:Value)(r:Int×Int×Cn)(e:Ending)(w':qw):Prop:=e=.returned (.agg #[qI r.1,qI r.2.1])/\(∃M' vr',Mg w1 w' G Y r.2.2 M' v13 vr')/\Kb w w'
def aHe {g w W:qw}{G:Nat}{Y:Lyb}{d l:Value}{u v:Value}{i j:Int}{r:Int×Int×Cn}(s:fn.results=#[.cell a 80])(ha:tmps[a]?=some (.pointer$ qP q))(h:Mg g W G Y C M d l)(p:Blk W q #[u,v] 80)(y:Kb w W)(B:w.heap.size<=q)(A:G<w.heap.size)(e:r=(i,j,C)):bodyPost prog fn (TcP g w G Y d r) Exit.ret ⟨tmps,[]⟩ (evs W q i j):=by
 subst e;have T:=(aM W q 0$ qI i).trans$ aM _ q 1$ qI j;have f:=(p.set 0$ qI i).set 1$ qI j;have e0:(evs W q i j).cell? (qR q 0)=qj i:=by rw[f.cell];rfl
 have e1:(evs W q i j).cell? (qR q 1)=qj j:=by rw[f.cell];rfl
 exact bodyPost_ret_by (v:=.agg #[qI i,qI j]) (by simp[results,s,go_sem,ha,e0,e1]) rfl ⟨rfl,⟨M,l,h.bx p J Ja T⟩,λk x t n b=>aD T (y k x t n b) λe=>jK b.lt⟩
def aM3 (w1 G Y C M a0 A k c w)(h:Mg w1 w G Y C M a0 (qS A k c))(hr:RS w A k c (plQ C Y.L))(hv:Cv C Y.L)(hp:wrd C.pc)(hz:∀z∈C.kz,wrd z)(hd:C.cd<=100)(hf:∀i,i<C.hz.length->frk C.ps (C.hz.getD i zFr)):
 qC 33 #[.pointer$ qP G] w (TcP w1 w G Y a0$ tkR C Y.L):=by
 have hg:=h.k.lt;let⟨U,hU,bU,kU⟩:=nwb w #[qI 0,qI 0] 80;have HU:=zh hU;have ar:U.heap.size=w.heap.size+1:=by rw[hU];simp
 let⟨⟨_,_,_,_,e5,_,_,e8⟩,_,_⟩:=h.vs;have b6:qN U G 14=qj C.tn:=by rw[<-e8];exact(h.k.bw bU).cell 14
 by_cases c0:C.tn<1000000000
 rotate_left
 .have ht:(C.tn==1000000000)=true:=by have:=hv.t;simp;omega
  have HE:=zh (show tkR C Y.L=(5,2,C)by unfold tkR;rw[if_neg c0]);have HF:=zh$ xA (h.bw bU)$ xA kU bU;have r0:=kU.two';clear h hr hv hp hz hd hf hU bU kU e5 e8 c0
  delta qC;go_in
  go_wp2_with (rw[<-HU.o])
  exact aHe rfl rfl HF.1 HF.2.1 (cG HF.2.2) aO hg HE
 have ht:(C.tn==1000000000)=false:=Jc
 let⟨bg,aP,Ls,β,m,g1,g2⟩:=h.m;obtain rfl:k=(plQ C Y.L).length:=hr.1.symm;have l1:=cS m.q.1;have l2:=cS m.q.2.1;have l3:=cS m.q.2.2.1;have K:Stk (C.z Y.L) C.pc C.kz (C.r Y.L):=aJv (C:=C.z Y.L) hp hv.g hz m.q.1.2 m.q.2.1.2 rfl hv.b;have ek:M.kn=8:=by rw[kD m.k];exact hv.g
 let⟨gk,ea⟩:=pY m.k J;have q0:cB w aP (qS M.fa C.fz.length M.fc) (qS M.ra C.rz.length M.rc) (qS M.oa C.oz.length M.oc) C.fz C.rz C.oz:=by rw[<-l1,<-l2,<-l3];exact m.q
 have HX:=zh (λ(X:qw)(b:qY w X)=>show qN X G 5=qj C.pc/\qN X G 6=qk (qP gk) 8 M.kc/\qN X G 7=qk M.fa C.fz.length M.fc/\qN X G 8=qk M.ra C.rz.length M.rc/\qN X G 9=qk M.oa C.oz.length M.oc/\qN X G 23=qk A (plQ C Y.L).length c by
  have q:=h.k.bw b;have q5:qN X G 5=qj M.pc:=q.cell 5;have q6:qN X G 6=qk M.ka M.kn M.kc:=q.cell 6;have q7:qN X G 7=qk M.fa M.fn M.fc:=q.cell 7;have q8:qN X G 8=qk M.ra M.rn M.rc:=q.cell 8;have q9:qN X G 9=qk M.oa M.on M.oc:=q.cell 9;rw[e5]at q5;rw[ea,ek]at q6;rw[l1]at q7;rw[l2]at q8;rw[l3]at q9
  exact⟨q5,q6,q7,q8,q9,q.cell 23⟩)
 have an:=zh q0;let⟨V,hV,bV,kV⟩:=nwb U #[qI C.pc,qS (qP gk) 8 M.kc] 38;have B0:=yT bU bV;rw[ar]at kV;have aj:=zb w λX b=>aOn C.pc gk 0 M.kc C.kz M.fa M.ra M.oa C.fz.length M.fc C.rz.length M.rc C.oz.length M.oc A (plQ C Y.L).length c X (by have:=(m.k.bw b).is;rw[ea,ek]at this;exact this) hp.1 hp.2 hz
 have b0:=zh (λ(g:Nat)(X:qw)(b:qY w X)(b8:w.heap.size<=g)(P:Pr X g C.pc C.kz (qS M.fa C.fz.length M.fc) (qS M.ra C.rz.length M.rc) (qS M.oa C.oz.length M.oc) (qS A (plQ C Y.L).length c))=>show qC 90 #[.pointer$ qP g] X (OpP X (zqM C M Y.L A c aP g)$ C.r Y.L)from aUz (M:=zqM C M Y.L A c aP g) X ⟨P,bD q0 b,λv b3 e=>by
  rcases b3 with rfl|rfl|rfl
  .have:=(q0.1.lt g e).2;omega
  .have:=(q0.2.1.lt g e).2;omega
  .have:=(q0.2.2.1.lt g e).2;omega,by show aP<=X.heap.size;have:=b.size;omega⟩$ hr.bw b)
 have HS:=zh (λ(g:Nat)(X:qw)(b:qY w X)(b8:w.heap.size<=g){x:Array Value}(P:Blk X g x 152)=>show ∀j,Uz (zqM C M Y.L A c aP g) j->aP<=j/\∃x ty,Blk X j x ty/\(ty=5\/ty=152)from λj Z=>by
  have q:=bD q0 b;rcases Z with Z|Z|Z
  .obtain rfl:j=g:=Z;exact⟨J,_,_,P,.inr rfl⟩
  .have⟨x,kb⟩:=aE q.2.1.1 Z;exact⟨(q.2.1.lt _ Z).1,x,_,kb,.inl rfl⟩
  .have⟨x,kb⟩:=aE q.2.2.1.1 Z
   exact⟨(q.2.2.1.lt _ Z).1,x,_,kb,.inl rfl⟩)
 have HK:=zh K;have HT:=zh (show tkR C Y.L=if (tkF C Y.L).1=5 then (5,(tkF C Y.L).2.1,C) else tkF C Y.L by unfold tkR;rw[if_pos c0]);have a3:=zh λq=>aU8 K q;have HH:=zh$ xA h$ xA m$ xA g1$ xA g2$ xA ea ek
 have aw:Zh (∀(d0:0<=(C.r Y.L).did/\(C.r Y.L).did<=5)(X:qw)(M':Mn),Mg w1 X G Y (C.n Y.L) M' a0 (qS A (plQ C Y.L).length c)->qC 92 #[.pointer$ qP G,.agg #[qI (C.r Y.L).did,qI (C.r Y.L).num]] X (FlP w1 X G Y a0$ tkF C Y.L)):=λd0 X M' h'=>aI1 w1 G Y _ M' a0 _ _ _ X h' ⟨hv.stp K,K.w,hd,hf,c0⟩ d0.1 d0.2 (λa b=>by
  rcases K.d with⟨e1,e2⟩|⟨f,e⟩|⟨d,n,_,e,hn,_⟩
  .omega
  .rw[e]at b;exact absurd (show(5:Int)<=3 from b) Ja
  .rw[e];exact hn)
 have y5:=HX V B0;have x5:=HX U bU;have v0:=kV.two';have HB:=zh$ xA bU$ xA kU$ xA B0$ xA kV bV;have HV:=zh hV;have be:G<V.heap.size:=jK B0.size;clear h hr hv hp hz hd hf hU bU kU e5 e8 c0 m g1 g2 l1 l2 l3 K ek ea q0 hV bV B0 kV
 delta qC;go_in
 go_wp2_with (first|rw[<-HU.o]|rw[<-HV.o])
 clear ar
 go_region_held3 (λw'=>w'.cell? (qr w 0)=qj C.pc/\w'.cell? (qr w 1)=qk (qP gk) 8 M.kc/\qN w' G 7=qk M.fa C.fz.length M.fc/\qN w' G 8=qk M.ra C.rz.length M.rc/\qN w' G 9=qk M.oa C.oz.length M.oc/\qN w' G 23=qk A (plQ C Y.L).length c) (go_keep)
  (first|(go_at_call 89;(first|with_reducible refine(aj.o _ HB.o.2.2.1).mono ?_|with_reducible refine(aj.o _ HB.o.2.2.1.drew).mono ?_);rintro e X2 ⟨g,a6,rfl,P2,E⟩;replace E:qY V X2:=(by first|exact E|exact aW E);have p:=yT HB.o.2.2.1 E;obtain⟨z5,z6,z7,z8,z9,bd⟩:=HX.o X2 p;obtain⟨u0,u1,u2⟩:=(HB.o.2.2.2.1.bw E).two'))
 have u:w.heap.size<=g:=by have:=HB.o.2.2.1.size;simp at a6;omega
 have gG:g≠G:=J
 have Gg:G≠g:=J
 have ay:=zh$ b0 g X2 p u P2;have a4:=zh$ HS g X2 p u P2.blk;have H2:=zh$ xA p$ xA E u;clear E P2 p a6 u aj b0 HS b6 x5 y5 v0 z5 z6 z7 z8 z9 bd u0 u1 u2 HV HU;go_wp2_with fail
 apply ay.mono;rintro e l ⟨a5,n3,c3,rfl,P3,T3⟩;let⟨X4,b1,b4,k4⟩:=nwb l #[qI (C.r Y.L).did,qI (C.r Y.L).num] 80;have aa:=HH.1.k.bw H2.1
 have kG:=(aD T3 aa (λs=>by
  let⟨_,x,ty,kb,e⟩:=a4 _ s;have:=aH aa kb
  rcases e with rfl|rfl<;>exact absurd this Ja)).bw b4
 have P4:=P3.bw b4;have p9:qN X4 g 9=qk M.fa C.fz.length M.fc:=P4.p.mem.1;have ax:qN X4 g 10=qk M.ra C.rz.length M.rc:=P4.p.mem.2.1;have am:qN X4 g 11=qk a5 n3 c3:=P4.p.mem.2.2.1;have ae:=zb X4 λX b=>show ∃s5 s6 s7 s8 s9,qN X G 5=some s5/\qN X G 6=some s6/\qN X G 7=some s7/\qN X G 8=some s8/\qN X G 9=some s9/\∀i,X.frozen? (qR G i)=false from⟨_,_,_,_,_,(kG.bw b).cell 5,(kG.bw b).cell 6,(kG.bw b).cell 7,(kG.bw b).cell 8,(kG.bw b).cell 9,(kG.bw b).frozen⟩;have ap:=zb X4 λX b=>show qN X g 9=qk M.fa C.fz.length M.fc/\qN X g 10=qk M.ra C.rz.length M.rc/\qN X g 11=qk a5 n3 c3 from⟨(P4.bw b).p.mem.1,(P4.bw b).p.mem.2.1,(P4.bw b).p.mem.2.2.1⟩;have ah:=zb X4 λX b=>show qC 91 #[.pointer$ qP g] X (dV X (C.r Y.L).pc 8 (C.r Y.L).rg)from aU2 X$ P4.p.bw b;let⟨s5,s6,s7,s8,s9,w5,w6,w7,w8,w9,wf⟩:=ae X4 brf;have H4:=zh$ xA P3$ xA T3$ xA b4 k4;have au:=zh b1;clear P3 T3 b4 k4 aa kG P4 b1 ay;go_wp2_with (rw[<-au.o])
 go_region_held3 (λw'=>qN w' g 9=qk M.fa C.fz.length M.fc/\qN w' g 10=qk M.ra C.rz.length M.rc/\qN w' g 11=qk a5 n3 c3) (go_keep)
  (first|(go_at_call 91;(first|with_reducible refine(ah.o _ brf).mono ?_|with_reducible refine(ah.o _ brf.drew).mono ?_);rintro e X5 ⟨b2,ck,rfl,O5,I⟩;replace I:qY X4 X5:=(by first|exact I|exact aW I);obtain⟨p9,ax,am⟩:=ap.o X5 I;obtain⟨s5,s6,s7,s8,s9,w5,w6,w7,w8,w9,wf⟩:=ae.o X5 I))
 let⟨X6,a7⟩:=aN$ st5 X5 G (qI (C.r Y.L).pc) (qS b2 8 ck) (qS M.fa C.fz.length M.fc) (qS M.ra C.rz.length M.rc)$ qS a5 n3 c3;let⟨P3,T3,b4,k4⟩:=H4.o;let⟨p,E,a6⟩:=H2.o;let⟨h0,m0,g1,g2,ea,ek⟩:=HH.o;let⟨bU,kU,B0,kV,bV⟩:=HB.o;have b9:=p.size;have ba:=T3.size;have b7:=b4.size;let⟨Q1,Q2,Q3,Q4⟩:=aUi (h0.bw p) (m0.bw p) g1 g2 ((T3.trans$ aI b4).trans$ aI I) a4 (bD (bD P3.o b4) I) (O5.mono$ show aP<=X4.heap.size from J) (C.r Y.L).pc a7
 have nu:∀{j:Nat}{x:Array Value}{t:TypeId},Blk X2 j x t->t≠5->t≠152->¬Uz (zqM C M Y.L A c aP g) j:=λb n1 n2 s=>by
  let⟨_,x,ty,kb,e⟩:=a4 _ s;have:=aH b kb;rcases e with rfl|rfl
  .exact n1 this
  .exact n2 this
 have ag:∀{j:Nat}{x:Array Value}{t:TypeId},Blk X2 j x t->t≠5->t≠152->j≠G->Blk X6 j x t:=λb n1 n2 n3=>aD Q4 (((aD T3 b$ nu b n1 n2).bw b4).bw I) n3;have bb:=B0.size;have a8:=aD Q4 (k4.bw I)$ show ¬l.heap.size=G from J;have aq:=ag (kV.bw E) Ja Ja J;have ao:=ag ((kU.bw bV).bw E) Ja Ja J
 have B:Kb w X6:=λj x t n b=>aD Q4 (((aD T3 (b.bw p) (λs=>by
  rcases s with s|s|s
  .have e:j=g:=s;have:=b.lt;omega
  .have⟨bc,kb⟩:=aE (bD an p).2.1.1 s;exact n$ .inl$ .inl$ aH (b.bw p) kb
  .have⟨bc,kb⟩:=aE (bD an p).2.2.1.1 s
   exact n$ .inl$ .inl$ aH (b.bw p) kb)).bw b4).bw I) (λe=>by
  have e':j=G:=e;subst e'
  exact n$ .inl$ .inr$ .inl$ aH b h0.k)
 rw[ea,ek]at Q3;have HQ:=zh$ xA Q1$ xA Q2$ xA Q3$ xA aq$ xA ao$ xA B a8
 have af:=zh (aw (by
  rcases HK.d with⟨e1,e2⟩|⟨f,e⟩|⟨d,n,hd,e,_⟩
  .omega
  .rw[e];exact⟨by show(0:Int)<=5;decide,by show(5:Int)<=5;decide⟩
  .rw[e];show 0<=d/\d<=5;omega) X6 _ Q1)
 have bj:w.heap.size+1<l.heap.size:=jK$ (kV.bw E).lt;let⟨e0,e1,e2⟩:=a8.two';unfold st5 at a7;have ac:=zh a7;have ab:=zh$ xA g1 g2;clear P3 T3 b4 k4 p E a6 h0 m0 g1 g2 ea ek bU kU B0 kV bV b9 ba b7 bb Q1 Q2 Q3 Q4 nu ag a8 aq ao B a7 O5 I p9 ax am w5 w6 w7 w8 w9 wf aw ah ap ae au H4 a4 H2 HB HH HX;go_wp2_with (rw[<-ac.o])
 apply af.mono;rintro e X7 ⟨rfl,⟨M7,bf,h7⟩,y,a2⟩;let⟨Q1,Q2,Q3,kC,kR,B,S⟩:=HQ.o;let⟨g1,g2⟩:=ab.o;replace S:=y _ _ _ Jg S;replace kC:=y _ _ _ Jg kC;replace kR:=y _ _ _ Jg kR;generalize tkF C Y.L=F at *;obtain⟨f1,f2,N⟩:=F;dsimp only at h7 a2 HT a3;have R:=(aM X7 l.heap.size 0$ qI f1).trans$ aM _ l.heap.size 1$ qI f2;have D:=(S.set 0$ qI f1).set 1$ qI f2;let⟨X8,a1⟩:=aN$ evs X7 l.heap.size f1 f2;unfold evs at a1;rw[<-a1]at R D;have ai:=aD R kC$ show ¬w.heap.size+1=l.heap.size from J;have Q:=aD R kR$ show ¬w.heap.size=l.heap.size from J;have H:Kb w X8:=λj x t n b=>aD R (y j x t n$ B j x t n b) (λe=>by have:=b.lt;have e':j=l.heap.size:=e;omega);let⟨e0,e1,e2⟩:=S.two';let⟨c0,c1,c2⟩:=ai.two';have f0:X8.cell? (qh l 0)=qj f1:=by rw[D.cell];rfl
 have az:=zh a1;have gE:G<l.heap.size:=J
 by_cases c5:f1=5
 .subst c5;let⟨eF,eC⟩:=a3 rfl;have O:=a2 rfl;have m8:=(Q2.bw O).bx S J Ja R;have W:=(Q1.bw O).bx S gE Ja R;have o8:=aX R (Q3.bw O)$ aU S (Q3.bw O).1 Ja;have h9:∀N',{ C.n Y.L with pc:=C.pc,kz:=C.kz }=N'->∃M',Mg w1 ((X8.setCell (qR G 5)$ qI C.pc).setCell (qR G 6)$ qS (qP gk) 8 M.kc) G Y N' M' a0$ qS A (plQ C Y.L).length c:=λN' e=>by subst e;exact⟨_,aRu W m8 g1 g2 o8 C.pc⟩
  let⟨M9,h9⟩:=h9 C eC;have T9:=(aM X8 G 5$ qI C.pc).trans$ aM _ G 6$ qS (qP gk) 8 M.kc;let⟨X9,ak⟩:=aN$ (X8.setCell (qR G 5)$ qI C.pc).setCell (qR G 6)$ qS (qP gk) 8 M.kc;rw[<-ak]at h9 T9;have ad:=aD T9 D$ show ¬l.heap.size=G from J;have a9:=aD T9 Q$ show ¬w.heap.size=G from J
  have av:Kb w X9:=λj x t n b=>aD T9 (H j x t n b) (λe=>by
   have e':j=G:=e;subst e'
   exact n$ .inl$ .inr$ .inl$ aH (H j x t n b) W.k)
  have w5:=W.k.cell 5;have w6:=W.k.cell 6;have wf:=W.k.frozen;have q0:X9.cell? (qh l 0)=qj 5:=by rw[ad.cell];rfl
  have q1:X9.cell? (qh l 1)=qj f2:=by rw[ad.cell];rfl
  have r0:=a9.two';have HE:=zh$ HT.trans$ if_pos rfl;have HZ:=zh$ xA h9$ xA a9 av;have b5:=zh ak;clear Q1 Q2 Q3 kC kR B S h7 y a2 R D a1 ai Q H eF eC O m8 W o8 h9 T9 ak ad a9 av g1 g2 HT a3 HQ ab af ac;go_wp2_with (first|rw[<-az.o]|rw[<-b5.o])
  exact aHe rfl rfl HZ.1 HZ.2.1 HZ.2.2 aO hg HE
 .have W:=h7.bx S gE Ja R;have bh:X8.cell? (qh l 1)=qj f2:=by rw[D.cell];rfl
  have r0:=Q.two';have HE:=zh$ HT.trans$ if_neg c5;have HZ:=zh$ xA W$ xA Q H;have bi:(f1==5)=false:=by simpa using c5
  clear Q1 Q2 Q3 kC kR B S h7 y a2 R D a1 ai Q H W g1 g2 HT a3 HQ ab af ac c5;go_wp2_with (rw[<-az.o])
  exact aHe rfl rfl HZ.1 HZ.2.1 HZ.2.2 aO hg HE
def aV8 {xs:List SlT}{i:Nat}(h:(xs.getD i zSl).1=false):aln xs i:=λk _ q=>by have:=q.1;rw[h]at this;cases this
def aDy (M i w)(h:MnD w M)(hi:i<M.ln):
 qC 119 #[.agg #[qS M.ma M.mn M.mc,qI M.cs,qI M.cw,qI M.ck,qI M.cd,qI M.pc,qS M.ka M.kn M.kc,qS M.fa M.fn M.fc,qS M.ra M.rn M.rc,qS M.oa M.on M.oc,qI M.md,qI M.bk,qS M.la M.ln M.lc,qS M.ha M.hn M.hc,qI M.tn],qI i] w (Yn (slk (aF M.ms) M.tn (M.lz.getD i zSl)/\aln M.lz i) w):=by
 have a5:=h.l.2.1;unfold maxLen at a5;have ab:(i:Int)<(M.ln:Int):=J
 let⟨U,hU,bU,kU⟩:=nwb w #[qS M.ma M.mn M.mc,qI M.cs,qI M.cw,qI M.ck,qI M.cd,qI M.pc,qS M.ka M.kn M.kc,qS M.fa M.fn M.fc,qS M.ra M.rn M.rc,qS M.oa M.on M.oc,qI M.md,qI M.bk,qS M.la M.ln M.lc,qS M.ha M.hn M.hc,qI M.tn] 43;have K:=zh$ h.l.bw bU;have a2:=zh$ h.m.bw bU;have Z:=zh$ fG h.m;have A:=zh λ(k:Nat)(hk:k<i)(q:cmn (M.lz.getD i zSl) (M.lz.getD k zSl))=>aQd hk q;have D:=zh λ(k:Nat)(Q:∀j,j<k->¬cmn (M.lz.getD i zSl) (M.lz.getD j zSl))(q:¬cmn (M.lz.getD i zSl) (M.lz.getD k zSl))=>aQc Q q;have u:Zh ((∀j,j<i->¬cmn (M.lz.getD i zSl) (M.lz.getD j zSl))->aln M.lz i):=λq=>q;have O:=zh λq=>aV8 (xs:=M.lz) (i:=i) q;clear h;generalize M.la=la at *;obtain⟨g,f,rfl,q0,q1,q2,q3⟩:=K.at i hi _ _ _ _ rfl;generalize M.lz.getD i zSl=x at *;obtain⟨x0,C,a,x3⟩:=x;dsimp only at q0 q1 q2 q3;let⟨V,hV,bV,kV⟩:=nwb U #[.bool x0,qI C,qI a,qI x3] 132;have BV:=yT bU bV;have E:=kU.bw bV;have a8:=kU.e12;have l:=zh$ jS M.ma M.mn M.mc M.ms C a V$ a2.s.bw bV;rw[Z.o C a]at l
 have R:=zh (λ(X:qw)(P:qY V X)=>show(qn X w 0=qk M.ma M.mn M.mc/\qn X w 12=qk (qe g f) M.ln M.lc/\qn X w 14=qj M.tn)/\qn X U 0=some (.bool x0)/\qn X U 1=qj C/\qn X U 2=qj a/\qn X U 3=qj x3 from
  ⟨⟨(E.bw P).cell 0,(E.bw P).cell 12,(E.bw P).cell 14⟩,(kV.bw P).cell 0,(kV.bw P).cell 1,(kV.bw P).cell 2,(kV.bw P).cell 3⟩)
 have N:=zh$ K.bw bV;have b:=zh BV;have H:=zh hU;have G:=zh hV;clear hU hV bU bV kU E kV BV K a2 Z;let⟨⟨p0,a0,a1⟩,s0,s1,s2,s3⟩:=R V brf;cases x0 with
 | false=>
   have a6:=zh$ O rfl;rw[aS0];clear l R A D u O N p0 a0 a1;by_cases e1:C=0
   .by_cases e2:a=0
    .by_cases e3:x3=0
     .subst e1 e2 e3
      delta qC;go_in
      go_wp2_with (rw[<-H.o])
      go_ret;exact uB ⟨rfl,a6.o⟩ (by have:=b.o;rw[G.o]at this;exact this)
     .have ae:(x3==0)=false:=by simp[e3]
      have Y:Zh (¬(false,C,a,x3)=zSl):=λq=>e3 (by unfold zSl at q;simp at q;exact q.2.2);subst e1 e2;clear e3
      delta qC;go_in
      go_wp2_with (first|rw[<-H.o]|rw[<-G.o])
      go_ret;exact dN (λq=>Y q.1) b
    .have ag:(a==0)=false:=by simp[e2]
     have Y:Zh (¬(false,C,a,x3)=zSl):=λq=>e2 (by unfold zSl at q;simp at q;exact q.2.1);subst e1;clear e2
     delta qC;go_in
     go_wp2_with (first|rw[<-H.o]|rw[<-G.o])
     go_ret;exact dN (λq=>Y q.1) b
   .have ai:(C==0)=false:=by simp[e1]
    have Y:Zh (¬(false,C,a,x3)=zSl):=λq=>e1 (by unfold zSl at q;simp at q;exact q.1);clear e1
    delta qC;go_in
    go_wp2_with (first|rw[<-H.o]|rw[<-G.o])
    go_ret;exact dN (λq=>Y q.1) b
 | true=>
   rw[aJx];clear O;by_cases c2:0<=pcq (aF M.ms) C a
   .have I:=zh c2;rw[xR c2]at l;clear c2
    delta qC;go_in
    go_wp2_with (first|rw[<-H.o]|rw[<-G.o])
    apply l.mono;rintro e X1 ⟨rfl,s⟩;have a4:=zh s;have t:=zh$ yT b s;clear p0 a0 a1 s0 s1 s2 s3 q0 q1 q2 q3 a8;let⟨⟨p0,a0,a1⟩,s0,s1,s2,s3⟩:=R X1 s;clear s l H G;by_cases c3:a<0
    .go_wp2;go_ret;exact dN (λq=>jK q.1.1) t
    by_cases c4:x3<1
    .go_wp2;go_ret;exact dN (λq=>jK q.1.2.2.1) t
    by_cases c5:M.tn<x3
    .go_wp2;go_ret;exact dN (λq=>jK q.1.2.2.2) t
    have a9:Zh (0<=a/\0<=pcq (aF M.ms) C a/\1<=x3/\x3<=M.tn):=⟨J,I,J,J⟩;go_wp2;clear p0 a0 a1 s0 s1 s2 s3;go_loopw [6] (λj wr=>∃k:Nat,k<=i/\j=qI k/\(∀j,j<k->¬cmn (true,C,a,x3) (M.lz.getD j zSl))/\qY V wr) (qf i)
    .exact⟨0,xC _,rfl,λj hj=>absurd hj J,a4⟩
    .obtain⟨k,hk,rfl,Q,S⟩:=hrel;by_cases a7:k<i
     .have aa:(k:Int)<(i:Int):=J
      have ac:(k:Int)<(M.ln:Int):=J
      let⟨g',f',a3,q0,q1,q2,q3⟩:=(N.bw S).at k J _ _ _ _ rfl;simp at a3;obtain⟨rfl,rfl⟩:=a3;let⟨⟨r0,aj,ak⟩,_⟩:=R wr S;have p:=zh$ A k a7;have d:=zh$ D k Q;generalize M.lz.getD k zSl=y at *;obtain⟨o0,o1,o2,o3⟩:=y;dsimp only at q0 q1 q2 q3;let⟨W,hW,bW,kW⟩:=nwb wr #[.bool o0,qI o1,qI o2,qI o3] 132;have BW:=yT S bW;have B:=zh BW;have HW:=zh hW;have t0:=R W BW;let⟨p0,p1,p2,p3⟩:=kW.z4;clear hW bW kW BW S Q A D u N;cases o0 with
      | false=>
        have F:=zh$ d (λq=>by have:=q.2.1;cases this);clear p d;go_wp2_with (rw[<-HW.o])
        go_roundw
        .exact⟨k+1,J,by go_num,F,B⟩
        .simp[qf,intOf];omega
      | true=>
        by_cases c3:o3=x3
        .subst c3;have F:=zh$ p ⟨rfl,rfl,.inl rfl⟩;clear p d;go_wp2_with (rw[<-HW.o])
         go_ret;exact dN (λq=>F q.2)$ yT b B
        .have af:(o3==x3)=false:=by simp[c3]
         by_cases c1:o1=C
         .by_cases c2:o2=a
          .have F:=zh$ p ⟨rfl,rfl,.inr ⟨c1,c2⟩⟩;subst c1 c2;clear p d c3;go_wp2_with (rw[<-HW.o])
           go_ret;exact dN (λq=>F q.2)$ yT b B
          .have ad:(o2==a)=false:=by simp[c2]
           have F:=zh$ d (λq=>by rcases q.2.2 with e|e;exact c3 e;exact c2 e.2);subst c1;clear p d c3 c2;go_wp2_with (rw[<-HW.o])
           go_roundw
           .exact⟨k+1,J,by go_num,F,B⟩
           .simp[qf,intOf];omega
         .have ah:(o1==C)=false:=by simp[c1]
          have F:=zh$ d (λq=>by rcases q.2.2 with e|e;exact c3 e;exact c1 e.1);clear p d c3 c1;go_wp2_with (rw[<-HW.o])
          go_roundw
          .exact⟨k+1,J,by go_num,F,B⟩
          .simp[qf,intOf];omega
     .have HY:=zh$ u λj hj=>Q j J;have HB:=zh S;clear S Q;go_wp2;go_ret;exact uB ⟨a9,HY⟩$ yT b HB
   .have I:=zh c2;rw[xS c2]at l;clear c2
    delta qC;go_in
    go_wp2_with (first|rw[<-H.o]|rw[<-G.o])
    apply l.mono;rintro e X1 ⟨rfl,s⟩;have t:=zh$ yT b s;clear s l R H G;go_wp2;go_ret;exact dN (λq=>by have h1:=I.o;have h2:=q.1.2.1;omega) t
def aAe (xs b:qi)(k)(h:xs.take k=b.take k)(hx:k<xs.length)(d:k<b.length)(e:xs.getD k 0=b.getD k 0):xs.take (k+1)=b.take (k+1):=by
 rw[List.take_succ_eq_append_getElem hx,List.take_succ_eq_append_getElem d,h]
 grind
def tW (a x n B p C xs q w)(h:BS w a n B xs)(D:BS w x p C q):
 qC 66 #[qS a n B,qS x p C] w (qB w$ .bool$ decide$ xs=q):=by
 obtain⟨I,O,U,hc,_⟩:=h;obtain⟨N,P,V,M,_⟩:=D;unfold maxLen at O P;by_cases Q:n=p
 .subst Q;have y:((n:Int) !=(n:Int))=false:=Jb
  by_cases f:n=0
  .subst f;obtain rfl:xs=[]:=xE I;obtain rfl:q=[]:=xE N
   delta qC;go_in
   go_wp2;go_loop [5] (λi=>i=qI 0) (λ_=>0)
   .rfl
   .obtain rfl:=hrel;go_wp2;go_ret;exact⟨rfl,brf⟩
  .obtain⟨b,u,rfl,hd⟩:=hc f;obtain⟨K,S,rfl,H⟩:=M f
   delta qC;go_in
   go_wp2;go_loopw [5] (λi wr=>∃k:Nat,k<=n/\i=qI k/\xs.take k=q.take k/\qY w wr) (qf n)
   .exact⟨0,xC _,rfl,Jb,brf⟩
   .obtain⟨k,G,rfl,s,j⟩:=hrel;by_cases d:k<n
    .have A:(k:Int)<(n:Int):=J
     have t:qN wr b (u+k)=some (.int .u8$ xs.getD k 0):=(j.cell$ xD w _$ hd k d).trans$ hd k d;have:qN wr K (S+k)=some (.int .u8$ q.getD k 0):=(j.cell$ xD w _$ H k d).trans$ H k d;by_cases l:xs.getD k 0=q.getD k 0
     .have hS:=aAe xs q k s J J l;have E:Zh (xs.take (k+1)=q.take (k+1)):=hS;rw[l]at t;generalize q.getD k 0=z at *;have R:(z !=z)=false:=Jb
      go_wp2
      go_quiet (fail)
      go_wp2
      go_roundw
      .exact⟨k+1,J,by go_num,E,below_drewN j _⟩
      .simp[qf,intOf];omega
     .have g:Zh (decide (xs=q)=false):=by
       show _=_;simp;intro e;exact l (by rw[e])
      have R:(xs.getD k 0 !=q.getD k 0)=true:=by simpa using l
      generalize q.getD k 0=z at *;generalize xs.getD k 0=F at *;go_wp2
      go_quiet (fail)
      go_wp2;go_ret;exact⟨aA g.symm,below_drewN j _⟩
    .have g:Zh (decide (xs=q)=true):=by
      show _=_;simp;rw[xG J,xG J]at s;exact s
     go_wp2;go_ret;exact⟨aA g.symm,j⟩
 .have g:Zh (decide (xs=q)=false):=by
   show _=_;simp;intro e;rw[e]at I;omega
  have y:((n:Int) !=(p:Int))=true:=Jc
  delta qC;go_in
  go_wp2;go_ret;exact⟨aA g.symm,brf⟩
def MOk.cv {w:qw}(h:MOk M)(d:MnD w M):Cv M.cn M.L:=by
 have e1:=d.f.1;have e2:=d.r.1;have e3:=d.o.1;have:=d.k.1;have hc:=h.c;unfold cok at hc;simp at hc;exact⟨h.l,rfl,by show mok M.fz.length M.rz.length M.oz.length=true;rw[e1,e2,e3];exact h.b,by show(M.rz.length:Int)=_;rw[e2];exact h.r,by show M.kz.length=8;omega,h.s,h.n,h.t⟩
def NmP (w:qw)(M:Mn)(e:Ending)(w':qw):Prop:=(¬MOk M/\e=.returned (.tuple #[.pointer none,.bool false])/\qY w w')\/(MOk M/\∃w1 G Y N a13 n13 c13 A k c,e=.returned (.tuple #[.pointer$ qP G,.bool true])/\qY w w1/\Mg w1 w' G Y M.cn N (qS a13 n13 c13) (qS A k c)/\Y.L=M.L/\RS w' A k c (plQ M.cn Y.L))
def wH (M Ls w)(h:MnD w M)(H:MnS w M Ls):qC 31 #[.agg$ qA M] w (NmP w M):=by
 let⟨U,hU,bU,kU⟩:=nwb w (qA M) 43;have D:=zh$ uC M U$ h.bw bU;have HU:=zh hU;let⟨m0,m1,m2,m3,m4,m5,m6,m7,m8,m9,a4,a5,a6,a7,a8⟩:=kU.mc;have f:=zh$ xA bU kU;clear hU bU kU;by_cases y:MOk M
 .have ao:=zh$ y.cv h;have am:=zh y
  delta qC;go_in
  go_wp2_with (rw[<-HU.o])
  apply D.mono;rintro e X0 ⟨b,y0,n0,d0,i1,y2,n2,d2,i3,i4,y5,n5,d5,bb,rfl,g,W⟩;obtain rfl:bb=true:=g.2 y;let⟨ac,c0,xs,ad,c2,af,c5,ts,a2,lyt⟩:=W rfl;obtain⟨Y,hY⟩:∃Y:Lyb,Y=⟨M.L,ac,c0,xs,ad,c2,af,c5,ts⟩:=⟨_,rfl⟩;have s:Y.T X0:=by rw[hY];exact lyt
  have t:(#[qS y0 n0 d0,qI i1,qS y2 n2 d2,qI i3,qI i4,qS y5 n5 d5]:Array Value)=(qL Y.L Y.a0 Y.xs.length Y.c0 Y.a2 Y.L.slots.length Y.c2 Y.a5 Y.ts.length Y.c5):=by rw[hY];exact a2
  have a9:Y.L=M.L:=by rw[hY]
  unfold oG at a2;simp only[Array.mk.injEq,List.cons.injEq,Value.slice.injEq,Value.int.injEq,and_true,true_and]at t;obtain⟨⟨rfl,rfl,rfl⟩,rfl,⟨rfl,rfl,rfl⟩,rfl,rfl,rfl,rfl,rfl⟩:=t;let⟨q,ab,a1,kl⟩:=nwb X0 (qL Y.L Y.a0 Y.xs.length Y.c0 Y.a2 Y.L.slots.length Y.c2 Y.a5 Y.ts.length Y.c5) 65;have B:=yT b a1;have km:=f.2.bw B;have E:=yT f.1 B;have u:=s.bw a1
  have I:=zh (λ(X:qw)(O:qY q X)=>(mQ M Ls X$ (H.bw E).bw O).mono (λe a he=>show ∃N x aP L Q,e=.returned (.agg$ qA N)/\qY q a/\MxO a x aP M.cn N L Q/\q.heap.size<=x/\aP<=qs a by
   obtain⟨hb,N,x,aP,L,Q,he,hm,h1,h2⟩:=he
   exact⟨N,x,aP,L,Q,he,yT O hb,hm,xM O.size h1,h2⟩))
  have HC:=zb q λX O=>show(qn X w 0=qk M.ma M.mn M.mc/\qn X w 1=qj M.cs/\qn X w 2=qj M.cw/\qn X w 3=qj M.ck/\qn X w 4=qj M.cd/\qn X w 5=qj M.pc/\qn X w 6=qk M.ka M.kn M.kc/\qn X w 7=qk M.fa M.fn M.fc/\qn X w 8=qk M.ra M.rn M.rc/\qn X w 9=qk M.oa M.on M.oc/\qn X w 10=qj M.md/\qn X w 11=qj M.bk/\qn X w 12=qk M.la M.ln M.lc/\qn X w 13=qk M.ha M.hn M.hc/\qn X w 14=qj M.tn)/\qn X X0 0=qk Y.a0 Y.xs.length Y.c0/\qn X X0 1=qj Y.L.stack/\qn X X0 2=qk Y.a2 Y.L.slots.length Y.c2/\qn X X0 3=qj Y.L.flash/\qn X X0 4=qj Y.L.ram/\qn X X0 5=qk Y.a5 Y.ts.length Y.c5 from⟨(km.bw O).mc,(kl.bw O).ly6⟩;have Z:=zh ab;have i:=zh$ xA u$ xA E a9;clear m0 m1 m2 m3 m4 m5 m6 m7 m8 m9 a4 a5 a6 a7 a8 g W a2 lyt s ab a1 kl B km E u hY a9 h H D HU b y;obtain⟨⟨m0,m1,m2,m3,m4,m5,m6,m7,m8,m9,a4,a5,a6,a7,a8⟩,q0,q1,q2,q3,q4,q5⟩:=HC.o q brf;go_wp2_with (rw[<-Z.o])
  go_region_held3 (λa=>(a.cell? (qR (qs w) 0)=some (qS M.ma M.mn M.mc)/\a.cell? (qR (qs w) 1)=some (qI M.cs)/\a.cell? (qR (qs w) 2)=some (qI M.cw)/\a.cell? (qR (qs w) 3)=some (qI M.ck)/\a.cell? (qR (qs w) 4)=some (qI M.cd)/\a.cell? (qR (qs w) 5)=some (qI M.pc)/\a.cell? (qR (qs w) 6)=some (qS M.ka M.kn M.kc)/\a.cell? (qR (qs w) 7)=some (qS M.fa M.fn M.fc)/\a.cell? (qR (qs w) 8)=some (qS M.ra M.rn M.rc)/\a.cell? (qR (qs w) 9)=some (qS M.oa M.on M.oc)/\a.cell? (qR (qs w) 10)=some (qI M.md)/\a.cell? (qR (qs w) 11)=some (qI M.bk)/\a.cell? (qR (qs w) 12)=some (qS M.la M.ln M.lc)/\a.cell? (qR (qs w) 13)=some (qS M.ha M.hn M.hc)/\a.cell? (qR (qs w) 14)=some (qI M.tn))/\a.cell? (qR (qs X0) 0)=some (qS Y.a0 Y.xs.length Y.c0)/\a.cell? (qR (qs X0) 1)=some (qI Y.L.stack)/\a.cell? (qR (qs X0) 2)=some (qS Y.a2 Y.L.slots.length Y.c2)/\a.cell? (qR (qs X0) 3)=some (qI Y.L.flash)/\a.cell? (qR (qs X0) 4)=some (qI Y.L.ram)/\a.cell? (qR (qs X0) 5)=some (qS Y.a5 Y.ts.length Y.c5)) (go_keep)
   (first
     | (go_at_call 32;first
         | with_reducible refine(I.o _ brf).mono ?_
         | with_reducible refine(I.o _ brf.drew).mono ?_
        rintro e X2 ⟨N,x,aP,L,Q,rfl,d,hm,S,F⟩
        obtain⟨⟨p0,p1,p2,p3,p4,p5,p6,p7,p8,p9,aq,ar,au,av,aw⟩,q0,q1,q2,q3,q4,q5⟩:=HC.o X2 d))
  obtain⟨G,C⟩:=aN$ X2.heap.size;obtain⟨X3,a0⟩:=aN$ X2.alloc$ .cells #[qS N.ma N.mn N.mc,qI N.cs,qI N.cw,qI N.ck,qI N.cd,qI N.pc,qS N.ka N.kn N.kc,qS N.fa N.fn N.fc,qS N.ra N.rn N.rc,qS N.oa N.on N.oc,qI N.md,qI N.bk,qS N.la N.ln N.lc,qS N.ha N.hn N.hc,qI N.tn,qS Y.a0 Y.xs.length Y.c0,qI Y.L.stack,qS Y.a2 Y.L.slots.length Y.c2,qI Y.L.flash,qI Y.L.ram,qS Y.a5 Y.ts.length Y.c5,qI 0,qS none 0 0,qS none 0 0] 142;have b3:qY X2 X3:=by rw[a0];exact bal
  have K:Blk X3 G #[qS N.ma N.mn N.mc,qI N.cs,qI N.cw,qI N.ck,qI N.cd,qI N.pc,qS N.ka N.kn N.kc,qS N.fa N.fn N.fc,qS N.ra N.rn N.rc,qS N.oa N.on N.oc,qI N.md,qI N.bk,qS N.la N.ln N.lc,qS N.ha N.hn N.hc,qI N.tn,qS Y.a0 Y.xs.length Y.c0,qI Y.L.stack,qS Y.a2 Y.L.slots.length Y.c2,qI Y.L.flash,qI Y.L.ram,qS Y.a5 Y.ts.length Y.c5,qI 0,qS none 0 0,qS none 0 0] 142:=by rw[a0,C];exact Blk.new _ _ _
  have l:=d.trans$ b3.mono d.size;have aj:X3.cell? (qR w.heap.size 4)=some (qI M.cd):=(HC.o X3 l).1.2.2.2.2.1;have an:w.heap.size<q.heap.size:=xD q _ m0;have R:q.heap.size<=G:=by rw[C];exact d.size
  have:¬G=w.heap.size:=J
  have:¬w.heap.size=G:=J
  have ah:=K.e13;have ai:X3.cell? (qR G 21)=some (qI 0):=K.cell 21;have ag:X3.cell? (qR G 22)=some (qS none 0 0):=K.cell 22;have xf:=K.frozen;have V:N.cd=M.cd:=hm.vs.2.2.2.1;have p:=(K.set 21$ qI M.cd).set 22$ qS N.ha N.hn N.hc;have ae:=p.e13;obtain⟨X4,a3⟩:=aN$ ((X3.setCell ⟨G,21,none⟩$ qI M.cd).setCell ⟨G,22,none⟩$ qS N.ha N.hn N.hc).drew;have T4:=(aC X3 G 21$ qI M.cd).trans$ aC _ G 22$ qS N.ha N.hn N.hc
  have aa:Mg q X4 G Y M.cn N (qS N.ha N.hn N.hc) (qS none 0 0):=by
   rw[a3];refine Mg.bw ⟨aG l T4 (λj hj=>J) l.size,R,?_,⟨x,aP,L,Q,(hm.bw b3).gm K (by rw[C];exact F) T4,S,by rw[C];exact F⟩,i.o.1⟩ brf.drew;try unfold qA at *
   try unfold qL at *
   rw[V]at p⊢;exact p
  have P:=zh ((sQ q G Y M.cn N _ _ X4 aa (by rw[i.o.2.2];exact ao.o.cz)).1);have ak:=zh a3;have ap:=zh a0;have HG:=zh C;clear m0 m1 m2 m3 m4 m5 m6 m7 m8 m9 a4 a5 a6 a7 a8 p0 p1 p2 p3 p4 p5 p6 p7 p8 p9 aq ar au av aw q0 q1 q2 q3 q4 q5 d hm S F b3 l K p T4 aa a0 a3 HC I Z f V C an R;rw[<-ap.o,<-HG.o];go_wp2_with fail
  go_region_held3 (λa=>a.cell? (qR (qs w) 4)=some (qI M.cd)/\a.cell? (qR G 13)=some (qS N.ha N.hn N.hc)) (go_keep) (fail)
  rw[<-ak.o];clear aj ah ai ag xf ae;go_wp2_with fail
  apply P.o.mono;rintro e X5 ⟨rfl,A,k,c,hM,hR,_⟩;have HE:Zh (NmP w M (.returned$ .tuple #[.pointer$ qP G,.bool true]) X5):=.inr ⟨am,q,G,Y,N,_,_,_,_,_,_,rfl,i.2.1,hM,i.2.2,hR⟩;clear hM hR P;go_wp2
  go_ret2
  exact HE
 .delta qC;go_in
  go_wp2_with (rw[<-HU.o])
  apply D.mono;rintro e X0 ⟨b,y0,n0,d0,i1,y2,n2,d2,i3,i4,y5,n5,d5,bb,rfl,g,_⟩;obtain rfl:bb=false:=by cases bb;rfl;exact absurd (g.1 rfl) y
  have HE:Zh (NmP w M (.returned$ .tuple #[.pointer none,.bool false])$ qm X0 #[qS y0 n0 d0,qI i1,qS y2 n2 d2,qI i3,qI i4,qS y5 n5 d5] 65):=.inl ⟨y,rfl,(yT f.1 b).alloc (by have h1:=f.1.size;have h2:=b.size;omega) _⟩;clear b g y h H;go_wp2
  go_ret2
  exact HE
def aSr {W:qw}(d:Blk W q z15 43)(v0 v1 v2 v3 v4 k l p s t a f g i j)(Q:Ending->World->Prop)(tmps)(e:tmps[2]?=some (.pointer$ qP q))(b:Q (.returned$ .agg #[v0,v1,v2,v3,v4,k,l,p,s,t,a,f,g,i,j]) (oD W q v0 v1 v2 v3 v4 k l p s t a f g i j)):
 bodyPost prog f34 Q Exit.ret ⟨tmps,[]⟩ (oD W q v0 v1 v2 v3 v4 k l p s t a f g i j):=by
 obtain⟨u,w,D,E,F,G,H,I,K,M,x,y,A,B,C⟩:=(jE d v0 v1 v2 v3 v4 k l p s t a f g i j).mc;refine bodyPost_ret_by (v:=.agg #[v0,v1,v2,v3,v4,k,l,p,s,t,a,f,g,i,j]) ?_ rfl b;simp[results,results34,go_sem,e,u,w,D,E,F,G,H,I,K,M,x,y,A,B,C]
def aJl (E G Y C M u A x D w)(h:Mg E w G Y C M (qS u A x) D):qC 34 #[.pointer$ qP G] w (qB w$ .agg$ qA M):=by
 let⟨V,a⟩:=aN$ w.alloc$ .cells qZ 43;have d:qY w V:=by rw[a];exact bal
 have l:Blk V w.heap.size z15 43:=by rw[a];exact Blk.new _ _ _
 have f:V.heap.size=w.heap.size+1:=by rw[a];simp
 let⟨X,q⟩:=aN$ V.alloc$ .cells (qA M) 43;have g:qY V X:=by rw[q];exact bal
 have p:Blk X (w.heap.size+1) (qA M) 43:=by rw[q,<-f];exact Blk.new _ _ _
 have e:=l.bw g;have b:=e;unfold z15 at b;have:=b.mc;have:=b.frozen;have:=p.mc;have:=(h.k.bw d).mg;have k:=yT d g;have:(V.alloc$ .cells (qX M M.ma M.mn M.mc M.ka M.kn M.kc M.fa M.fn M.fc M.ra M.rn M.rc M.oa M.on M.oc M.la M.ln M.lc u A x) 43).cell? (qR G 22)=qk M.ha M.hn M.hc:=((h.k.bw d).alloc _).cell 22;have y:Zh (qY w$ oD X w.heap.size (qS M.ma M.mn M.mc) (qI M.cs) (qI M.cw) (qI M.ck) (qI M.cd) (qI M.pc) (qS M.ka M.kn M.kc) (qS M.fa M.fn M.fc) (qS M.ra M.rn M.rc) (qS M.oa M.on M.oc) (qI M.md) (qI M.bk) (qS M.la M.ln M.lc) (qS M.ha M.hn M.hc)$ qI M.tn):=aG k (cL _ _ _ _ _ _ _ _ _ _ _ _ _ _ _ _ _ ) (λj B=>J) k.size;have i:=zh e;have s:=zh q;have t:=zh a;clear q a g d l e b p k h
 delta qC;go_in
 go_wp2_with (first|rw[<-t.o]|rw[<-s.o])
 exact aSr i _ _ _ _ _ _ _ _ _ _ _ _ _ _ _ _ _ rfl ⟨rfl,y⟩
def MQ (w:World)(x:Value)(C:Cn)(e:Ending)(w':World):Prop:=qY w w'/\∃N base aP L β,e=.returned (.tuple #[mnV N,x])/\MxO w' base aP C N L β/\w.heap.size<=base
def aDs {w X:World}{base aP:Nat}{N:Mn}{L:List (PMod×Mb)}{b:Nat->Nat}(B:qY w X)(k:Blk X q z15 43)(g:w.heap.size<=q)(d:MxO X base aP C N L b)(e:w.heap.size<=base):MQ w x C (.returned$ .tuple #[.agg$ qA N,x]) (stM X q N):=
 ⟨aG B (cL _ _ _ _ _ _ _ _ _ _ _ _ _ _ _ _ _) (λj f=>J) B.size,N,base,aP,L,b,rfl,d.tm$ eZ k$ cL _ _ _ _ _ _ _ _ _ _ _ _ _ _ _ _ _,e⟩
def aEf {b:Nat}{W:World}(N){Q:Ending->World->Prop}(e:fn.results=#[.cell a 43,.tmp b])(k:Blk W q z15 43)(ha:tmps[a]?=some (.pointer$ qP q))(f:tmps[b]?=some x)(d:Q (.returned$ .tuple #[.agg$ qA N,x]) (stM W q N)):bodyPost prog fn Q Exit.ret ⟨tmps,[]⟩ (stM W q N):=by
 obtain⟨g,i,u,w,y,A,B,C,D,E,j,l,p,s,t⟩:=(jE k (qS N.ma N.mn N.mc) (qI N.cs) (qI N.cw) (qI N.ck) (qI N.cd) (qI N.pc) (qS N.ka N.kn N.kc) (qS N.fa N.fn N.fc) (qS N.ra N.rn N.rc) (qS N.oa N.on N.oc) (qI N.md) (qI N.bk) (qS N.la N.ln N.lc) (qS N.ha N.hn N.hc)$ qI N.tn).mc;refine bodyPost_ret_by (v:=.tuple #[.agg$ qA N,x]) ?_ rfl d;simp[results,e,go_sem,ha,f,g,i,u,w,y,A,B,C,D,E,j,l,p,s,t]
def zN (M)(Y:Lyb)(m b t w):∃U,U=((((w.alloc$ .cells (qA M) 43).alloc$ .cells (qL Y.L Y.a0 Y.xs.length Y.c0 Y.a2 Y.L.slots.length Y.c2 Y.a5 Y.ts.length Y.c5) 65).alloc$ .cells (qT m b t) 121).alloc$ .cells qZ 43)/\qY w U/\Blk U w.heap.size (qA M) 43/\Blk U (w.heap.size+1) (qL Y.L Y.a0 Y.xs.length Y.c0 Y.a2 Y.L.slots.length Y.c2 Y.a5 Y.ts.length Y.c5) 65/\Blk U (w.heap.size+1+1) (qT m b t) 121/\Blk U (w.heap.size+1+1+1) z15 43:=
 ⟨_,rfl,((bal.alloc Jb _).alloc Jc _).alloc Jc _,(((Blk.new _ _ _).alloc _).alloc _).alloc _,by have:=((Blk.new (w.alloc$ .cells (qA M) 43) (qL Y.L Y.a0 Y.xs.length Y.c0 Y.a2 Y.L.slots.length Y.c2 Y.a5 Y.ts.length Y.c5) 65).alloc$ .cells (qT m b t) 121).alloc$ .cells qZ 43;simpa using this,by have:=(Blk.new ((w.alloc$ .cells (qA M) 43).alloc$ .cells (qL Y.L Y.a0 Y.xs.length Y.c0 Y.a2 Y.L.slots.length Y.c2 Y.a5 Y.ts.length Y.c5) 65) (qT m b t) 121).alloc$ .cells qZ 43;simpa using this,by have:=Blk.new (((w.alloc$ .cells (qA M) 43).alloc$ .cells (qL Y.L Y.a0 Y.xs.length Y.c0 Y.a2 Y.L.slots.length Y.c2 Y.a5 Y.ts.length Y.c5) 65).alloc$ .cells (qT m b t) 121) z15 43;simpa[z15]using this⟩
def aIg (M Ls)(Y:Lyb)(m b t w)(h:MnD w M)(H:MnS w M Ls)(hl:Y.T w)(eY:Y.L=M.L)(Z:MOk M)(hc:¬(atB M.cn Y.L M.pc=true/\M.tn<1000000000/\tgk (aF M.ms) m b t)):Calls prog 135 #[.agg$ qA M,.agg$ qL Y.L Y.a0 Y.xs.length Y.c0 Y.a2 Y.L.slots.length Y.c2 Y.a5 Y.ts.length Y.c5,.agg$ qT m b t] w (MQ w (qI 2) M.cn):=by
 have hv:Cv M.cn Y.L:=by rw[eY];exact Z.cv h
 obtain⟨a5,a6⟩:=Z.pcd;obtain⟨U,hU,a,kM,kL,kT,kR⟩:=zN M Y m b t w;have S:=zh$ bE M Ls U$ H.bw a;have i:=zh$ xA kM$ xA kL$ xA kT kR;have F:=zh λ(X:World)(j:qY U X)=>eP M Y M.pc X ((h.bw a).bw j) ((hl.bw a).bw j) hv a5;have I:=zh λ(X:World)(j:qY U X)=>mZ M m b t X$ (h.bw a).bw j;obtain⟨R,hR⟩:=aN$ atB M.cn Y.L M.pc;obtain⟨A,hA⟩:=aN$ awy M.cn Y.L M.pc;rw[<-hR,<-hA]at F;have HC:=zh (show R=true->¬(tgk (aF M.ms) m b t/\M.tn<1000000000)from λe q=>hc ⟨by rw[<-hR];exact e,q.2,q.1⟩);have HU:=zh hU;have s:=zh a;obtain⟨x,C,m2,m3,m4,m5,m6,m7,m8,m9,a0,a1,a2,a3,a4⟩:=kM.mc;clear hU a kM kL kT kR h H hl eY Z hv a5 a6 hA hR hc;go_enter func135,ntmps135
 go_wp2_with (rw[<-HU.o])
 apply S.o.mono;rintro e X1 ⟨u,N,ah,aP,L,β,rfl,hm,K,P⟩;unfold mnV;obtain⟨V,hV,bV,kA⟩:=nwb X1 (qA N) 43;have f:=u.trans$ bV.mono u.size;have p:=zh$ s.o.trans$ f.mono s.o.size;have D:=zh f;have y:=zh λ(X:World)(j:qY V X)=>xA ((i.o.1.bw f).bw j)$ xA ((i.o.2.1.bw f).bw j)$ xA ((i.o.2.2.1.bw f).bw j)$ xA ((i.o.2.2.2.bw f).bw j)$ kA.bw j;have W:=zh$ xA (hm.bw bV)$ xA K$ xA P$ xA u.size i.o.2.2.2.lt;have HV:=zh hV;clear x C m2 m3 m4 m5 m6 m7 m8 m9 a0 a1 a2 a3 a4 u hm K P hV bV kA f S HU;obtain⟨x,C,m2,m3,m4,m5,m6,m7,m8,m9,a0,a1,a2,a3,a4⟩:=(y.o V brf).1.mc;obtain⟨l0,l1,l2,l3,l4,l5⟩:=(y.o V brf).2.1.z6;go_wp2_with (rw[<-HV.o])
 apply(F.o V D.o).mono;rintro e G ⟨rfl,O⟩;have g:=zh O;clear x C m2 m3 m4 m5 m6 m7 m8 m9 a0 a1 a2 a3 a4 l0 l1 l2 l3 l4 l5 O F HV;obtain⟨x,C,m2,m3,m4,m5,m6,m7,m8,m9,a0,a1,a2,a3,a4⟩:=(y.o G g.o).1.mc;cases R with
 | false=>
   have d:=g;obtain⟨p0,p1,p2,p3,p4,p5,p6,p7,p8,p9,a7,a8,a9,aa,ab⟩:=(y.o G d.o).2.2.2.2.mc;have l:=(y.o G d.o).2.2.2.1;have k:=l;unfold z15 at k;obtain⟨r0,r1,r2,r3,r4,r5,r6,r7,r8,r9,ac,ad,ae,af,ag⟩:=k.mc;have rf:=k.frozen;have HF:=zh$ show MQ w (qI 2) M.cn (.returned$ .tuple #[.agg$ qA N,qI 2]) (stM G (w.heap.size+1+1+1) N)from aDs (p.o.trans$ d.o.mono p.o.size) l J (W.o.1.bw d.o)$ xM s.o.size W.o.2.1;have E:=zh l;clear l k x C m2 m3 m4 m5 m6 m7 m8 m9 a0 a1 a2 a3 a4;go_wp2;exact aEf N rfl E.o rfl rfl HF.o
 | true=>
   obtain⟨t0,t1,t2,_⟩:=(y.o G g.o).2.2.1.three;have B:=zh$ I.o G$ D.o.trans$ g.o.mono D.o.size;rw[xS$ HC.o (by rfl)]at B;clear I;go_wp2_with fail
   apply B.o.mono;rintro e X3 ⟨rfl,Q⟩;have d:=zh$ g.o.trans$ Q.mono g.o.size;clear Q t0 t1 t2 B;obtain⟨p0,p1,p2,p3,p4,p5,p6,p7,p8,p9,a7,a8,a9,aa,ab⟩:=(y.o X3 d.o).2.2.2.2.mc;have l:=(y.o X3 d.o).2.2.2.1;have k:=l;unfold z15 at k;obtain⟨r0,r1,r2,r3,r4,r5,r6,r7,r8,r9,ac,ad,ae,af,ag⟩:=k.mc;have rf:=k.frozen;have HF:=zh$ show MQ w (qI 2) M.cn (.returned$ .tuple #[.agg$ qA N,qI 2]) (stM X3 (w.heap.size+1+1+1) N)from aDs (p.o.trans$ d.o.mono p.o.size) l J (W.o.1.bw d.o)$ xM s.o.size W.o.2.1;have E:=zh l;clear l k x C m2 m3 m4 m5 m6 m7 m8 m9 a0 a1 a2 a3 a4;go_wp2;exact aEf N rfl E.o rfl rfl HF.o
def aDz (M Ls)(Y:Lyb)(m b t w)(h:MnD w M)(H:MnS w M Ls)(hl:Y.T w)(eY:Y.L=M.L)(S:MOk M)(hc:atB M.cn Y.L M.pc=true/\M.tn<1000000000/\tgk (aF M.ms) m b t)(hd:¬(M.hn:Int)<M.cd):Calls prog 135 #[.agg$ qA M,.agg$ qL Y.L Y.a0 Y.xs.length Y.c0 Y.a2 Y.L.slots.length Y.c2 Y.a5 Y.ts.length Y.c5,.agg$ qT m b t] w (MQ w (qI 7) M.cn):=by
 have hv:Cv M.cn Y.L:=by rw[eY];exact S.cv h
 let⟨a0,a2⟩:=S.pcd;let⟨U,hU,a,C,kL,kT,kR⟩:=zN M Y m b t w;have K:=zh$ bE M Ls U$ H.bw a;have f:=zh$ xA C$ xA kL$ xA kT kR;have s:=zh λ(X:World)(i:qY U X)=>eP M Y M.pc X ((h.bw a).bw i) ((hl.bw a).bw i) hv a0;have B:=zh λ(X:World)(i:qY U X)=>mZ M m b t X$ (h.bw a).bw i;let⟨R,x⟩:=aN$ atB M.cn Y.L M.pc;let⟨A,hA⟩:=aN$ awy M.cn Y.L M.pc;rw[<-x,<-hA]at s;obtain rfl:R=true:=by rw[x];exact hc.1
 have HC:=zh$ xA hc.2.2 hc.2.1;have:M.cd<=(M.hn:Int):=J
 have HU:=zh hU;have G:=zh a;have y:=C.mc;clear hU a C kL kT kR h H hl eY S hv a0 a2 hA x hc hd
 go_in
 go_wp2_with (rw[<-HU.o])
 apply K.mono;rintro e X1 ⟨u,N,a3,aP,L,β,rfl,hm,D,F⟩;unfold mnV;let⟨V,hV,q,kA⟩:=nwb X1 (qA N) 43;have d:=yT u q;have Z:=zh$ yT G d;have l:=zh d;have p:=zh λ(X:World)(i:qY V X)=>xA ((f.1.bw d).bw i)$ xA ((f.2.1.bw d).bw i)$ xA ((f.2.2.1.bw d).bw i)$ xA ((f.2.2.2.bw d).bw i)$ kA.bw i;have HA:=zh$ xA (hm.bw q)$ xA D$ xA F$ xA u.size f.2.2.2.lt;have HV:=zh hV;clear y u hm D F hV q kA d K HU;have y:=(p V brf).1.mc;have l0:=(p V brf).2.1.z6;go_wp2_with (rw[<-HV.o])
 apply(s V l).mono;rintro e W ⟨rfl,E⟩;have j:=zh E;clear y l0 E s HV;have y:=(p W j).1.mc;have t0:=(p.o W j.o).2.2.1.three;have k:=zh$ B.o W$ l.o.trans$ j.o.mono l.o.size;rw[xR HC.o]at k;clear B;go_wp2_with fail
 apply k.o.mono;rintro e Q ⟨rfl,I⟩;have g:=zh$ yT j I;clear I t0 k;clear y;have y:=(p Q g).1.mc;have:=(p Q g).2.2.2.2.mc;have P:=(p Q g).2.2.2.1;have O:=P;unfold z15 at O;have:=O.mc;have:=O.frozen;have HF:=zh$ show MQ w (qI 7) M.cn (.returned$ .tuple #[.agg$ qA N,qI 7]) (stM Q (w.heap.size+1+1+1) N)from aDs (yT Z g) P J (HA.1.bw g)$ xM G.size HA.2.1;have a1:=zh P;clear P O;go_wp2;exact aEf N rfl a1 rfl rfl HF
