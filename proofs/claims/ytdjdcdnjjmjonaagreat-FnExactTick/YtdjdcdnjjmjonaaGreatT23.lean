import Derived.Below
import Derived.Orders
import Derived.ChangeMaps5
import Derived.Test.YtdjdcdnjjmjonaaGreatT20
import Derived.Test.YtdjdcdnjjmjonaaGreatT21
set_option linter.all false
set_option maxHeartbeats 64000000
namespace Go.Proofs.YtdjdcdnjjmjonaaGreat
open Go.RowKit
set_option maxRecDepth 100000
variable {C:Cn}{M N:Mn}{lo:Nat}
def aWf (Z){cb co:Nat}(w)(ha:Z.ca=some (qR cb co))(H:Zi w Z)(hc:cok Z.pc 8 Z.rg=true)(hm:mok Z.n1 Z.n2 Z.n3=true):
 qC 75 #[.agg Z.c,.agg Z.m,qS Z.ra Z.rn Z.rc] w (StQ w$ spz Z.toCy Z.pc Z.rg):=by
 obtain⟨p0,p1,_,hz⟩:=iN hc;have hn:Z.n1+Z.n2+Z.n3<=1048576:=jK$ uE hm;have HC:=zh λw h=>rB Z.pc Z.ca 8 Z.cc Z.rg w h;have HM:=zh λw=>lL Z.a1 Z.a2 Z.a3 Z.n1 Z.c1 Z.n2 Z.c2 Z.n3 Z.c3 w;rw[hc]at HC;rw[hm]at HM;have bd:=zh λw h=>pS Z.ra Z.rn Z.rc Z.rs Z.pc 4 3 w h ⟨J,J⟩;have ao:=zh λw t K=>sRd Z.a1 Z.a2 Z.a3 Z.n1 Z.c1 Z.n2 Z.c2 Z.n3 Z.c3 Z.x1 Z.x2 Z.pc 4 w t K p0 p1
 have a9:Zh (∀w,IS w Z.ca 8 Z.cc Z.rg->qC 71 #[.agg Z.c] w (dV w Z.pc 8 Z.rg)):=λw h=>by
  unfold Zt.c;rw[ha]at h⊢;exact xK Z.pc cb co 8 Z.cc Z.rg w h J
 have ac:=zh λw t K h3=>sY Z.a1 Z.a2 Z.a3 Z.n1 Z.c1 Z.n2 Z.c2 Z.n3 Z.c3 Z.x1 Z.x2 Z.x3 w t K h3 hn;obtain⟨r,g⟩:=aN$ spz Z.toCy Z.pc Z.rg;rw[<-g];unfold spz fez Cy.al Cy.rd at g;generalize alw Z.rs Z.rn Z.pc 4 3=AL at *;generalize rd Z.n1 Z.n2 Z.n3 Z.x1 Z.x2 Z.pc 4=R at *;obtain⟨x,q⟩:=R;dsimp only at g ao;have HR:=zh g;have HZ:=zh H;have bj:=zh hz;have HA:=zh ha;have hl:=H.c.1;have HG:=zh (λj:Int=>λ(h:0<=j/\j<=7)=>hz (Z.rg.getD j.toNat 0) (by rw[xB,xN$ show j.toNat<Z.rg.length from J];exact List.getElem_mem _));have HD:=zh λw=>aFc x w;obtain⟨W,hW⟩:=aN$ (((w.alloc$ .cells Z.c 38).alloc$ .cells Z.m 39).alloc$ .cells zCo 38).alloc$ .cells zMe 39;have F:qY w W:=by rw[hW];exact((bal.alloc Jb _).alloc Jc _).alloc Jc _
 have k0:=(((Blk.new w Z.c 38).alloc$ .cells Z.m 39).alloc$ .cells zCo 38).alloc$ .cells zMe 39;have k1:=((Blk.new (w.alloc$ .cells Z.c 38) Z.m 39).alloc$ .cells zCo 38).alloc$ .cells zMe 39;have k2:=(Blk.new ((w.alloc$ .cells Z.c 38).alloc$ .cells Z.m 39) zCo 38).alloc$ .cells zMe 39;have k3:=Blk.new (((w.alloc$ .cells Z.c 38).alloc$ .cells Z.m 39).alloc$ .cells zCo 38) zMe 39;simp only[xF]at k1 k2 k3;rw[<-hW]at k0 k1 k2 k3;have Z0:=H.bw F;clear g H hc hm hz hl ha;obtain⟨e1,e2,e3⟩:=k0.two';go_enter Tryz.func75,Tryz.ntmps75
 go_wp2_with fail
 rw[<-hW];clear hW;apply(a9.o _ Z0.c).mono;rintro e y ⟨ca,cp,rfl,oC,S⟩;have G:qY W (y.alloc$ .cells #[qI Z.pc,qS ca 8 cp] 38):=S.alloc S.size _;have kA:=Blk.new y #[qI Z.pc,qS ca 8 cp] 38;have am:=(k3.bw S).lt;obtain⟨f1,f2,f3,f4⟩:=(k1.bw S).three;have bg:=(k1.bw S).lt;have Z1:=Z0.bw G;clear e1 e2 e3;go_wp2_with fail
 apply(ac.o _ Z1.m Z1.n Z1.o).mono;rintro e P ⟨g1,d1,g2,d2,g3,d3,rfl,mM,Q⟩;have a4:qY (y.alloc$ .cells #[qI Z.pc,qS ca 8 cp] 38) (P.alloc$ .cells (qV g1 Z.n1 d1 g2 Z.n2 d2 g3 Z.n3 d3) 39):=Q.alloc Q.size _;have bb:=G.trans$ a4.mono G.size
 have SS:Shy w Z y.heap.size P.heap.size (Z.toCy.go 0 0 Z.pc Z.rg) (qS ca 8 cp) (qS g1 Z.n1 d1) (qS g2 Z.n2 d2) (qS g3 Z.n3 d3) (P.alloc$ .cells (qV g1 Z.n1 d1 g2 Z.n2 d2 g3 Z.n3 d3) 39):=
  ⟨F.trans$ bb.mono F.size,k0.bw bb,k1.bw bb,k2.bw bb,k3.bw bb,kA.bw a4,Blk.new P _ _,am,(by have:=Q.size;simp at this;omega),((oC.bw bal).bw a4).mono F.size,fM (fN mM _)$ jL F.size G.size,Z0.bw bb⟩
 have c4:w.heap.size<P.heap.size:=by have:=Q.size;simp at this;omega
 obtain⟨e1,e2,e3⟩:=((k0.bw G).bw Q).two';clear F k0 k1 k2 k3 Z0 Z1 oC S G kA am f1 f2 f3 f4 mM Q a4 bb bg;obtain⟨rb,rfl⟩:=pY SS.oc J;go_wp2_with fail
 apply(HC.o _ SS.i.c).mono;rintro e w3 ⟨rfl,b⟩;replace SS:=SS.step b;clear b e1 e2 e3;obtain⟨f1,f2,f3,f4⟩:=SS.k1.three;go_wp2_with fail
 apply(HM.o _).mono;rintro e w4 ⟨rfl,b⟩;replace SS:=SS.step b;clear b f1 f2 f3 f4;obtain⟨e1,e2,e3⟩:=SS.k0.two';go_wp2_with fail
 apply(bd.o _ SS.i.r).mono;rintro e w5 ⟨rfl,b⟩;replace SS:=SS.step b;clear b e1 e2 e3;cases AL
 focus
  have g:=HR.o;clear HR;simp only[Bool.false_eq_true,reduceIte,show ¬((5:Int)=0)from J]at g;subst g;have u:=SS.did 5 5;clear SS
 rotate_left
 focus
  obtain⟨e1,e2,e3⟩:=SS.k0.two';obtain⟨f1,f2,f3,f4⟩:=SS.k1.three;go_wp2_with fail
  apply(ao.o _ SS.i.m.bs SS.i.n.bs).mono;rintro e w6 ⟨rfl,b⟩;replace SS:=SS.step b;clear b e1 e2 e3 f1 f2 f3 f4;by_cases hq:q=0
  rotate_left
  focus
   have g:=HR.o;clear HR;simp only[reduceIte,hq]at g;subst g;have c7:(q !=0)=true:=by simpa using hq
   have u:=SS.did 5 q;clear SS
  rotate_left
  focus
   subst hq;go_wp2_with fail
   apply(HD.o _).mono;intro e w7 hd;unfold oB gC at hd;have g:=HR.o;clear HR HD;cases B:dOk x
   focus
    rw[B,if_neg Jb]at hd;obtain⟨rfl,b⟩:=hd;have u:=(SS.step$ b.alloc b.size$ .cells (qW 0 0 0 0) 186).did 5 6;simp only[B,Bool.false_eq_true,reduceIte,show ¬((6:Int)=0)from J]at g;subst g;clear b SS B
   rotate_left
   focus
    rw[B,if_pos rfl]at hd;obtain⟨rfl,b⟩:=hd;obtain⟨ch,cj⟩:=aI3 B;simp only[B,reduceIte]at g;clear B;obtain⟨ar,au⟩:0<=x/8388608%8/\x/8388608%8<=7:=J
    obtain⟨af,ag⟩:0<=x/1048576%8/\x/1048576%8<=7:=J
    obtain⟨a0,a1⟩:0<=x%65536/\x%65536<=65535:=J
    generalize x/67108864=o at *;generalize x/8388608%8=d at *;generalize x/1048576%8=a at *;generalize x%65536=i at *;have kI:=Blk.new w7 (qW o d a i) 186;have hI:P.heap.size<w7.heap.size:=jL SS.kB.lt b.size;replace SS:=SS.step$ b.alloc b.size$ .cells (qW o d a i) 186;clear b;have aa:=zh λw=>dR (Z.pc+4) w ⟨J,J⟩;obtain⟨nx,a8⟩:=aN$ m32$ Z.pc+4;unfold m32 at a8;rw[<-a8]at aa;have b9:0<=nx:=J
    have bh:nx<=4294967295:=J
    have a3:=zh λw=>aF9 o d a i nx w a0 a1 b9 bh;obtain⟨E,hE⟩:=aN$ ev o i nx;rw[<-hE]at a3;obtain⟨D,N⟩:=E;dsimp only at a3;have a5:=zh a8;have HE:=zh hE;have O:=zh g;clear a8 hE g;obtain⟨e1,e2,e3⟩:=SS.k0.two';go_wp2_with fail
    apply(aa.o _).mono;rintro e w8 ⟨rfl,rfl⟩;obtain⟨j1,j2,j3,j4,j5⟩:=kI.four';go_wp2_with fail
    apply(a3.o _).mono;rintro e w9 ⟨rfl,b⟩;replace SS:=SS.step b;replace kI:=kI.bw b;clear b e1 e2 e3 j1 j2 j3 j4 j5 aa a3;obtain⟨j1,j2,j3,j4,j5⟩:=kI.four';by_cases hM:14<=o/\o<=19
    focus
     obtain⟨bn,bo⟩:=hM
     obtain⟨rfl,rfl⟩:D=0/\N=0:=by
      have:=HE.o;unfold ev at this;rw[if_neg J,if_neg J,if_neg J,if_neg J]at this;injection this with t K
      exact⟨t,K⟩
     obtain⟨k,hk⟩:∃k:Nat,o=(k:Int)+14:=⟨(o-14).toNat,J⟩;have ad:=zh λW t K h3 hb=>sMm k J Z.toCy o d a i Z.pc rb cp Z.rg g1 g2 g3 Z.ra d1 d2 d3 Z.rc w.heap.size W hk t K h3 bj.o hn hb ar au af ag a0 a1;have HO:=zh$ aRg Z.toCy o d a i Z.pc Z.rg ⟨bn,bo⟩;unfold m32 at HO;rw[<-O.o]at ad HO;rw[<-a5.o]at HO;clear O hk HE;obtain⟨rd,rm,rp,rr,y1,y2,y3⟩:=r;obtain⟨V,U,u3⟩:=SS.kA.two';obtain⟨s1,s2,s3,s4⟩:=SS.kB.three;go_wp2_with fail
     apply(ad.o _ SS.oc SS.om SS.i.r SS.b.size).mono;rintro e A ⟨ai,m1,l1,aj,m2,l2,ak,m3,l3,rfl,oN,mN,tN⟩;have l:=SS.mem (r':=⟨rd,rm,Z.pc,rr,y1,y2,y3⟩) HZ.o tN oN mN rfl;have c3:=SS.hB;have bl:y.heap.size≠P.heap.size:=J
     have c6:=bl.symm;obtain⟨v1,v2,v3⟩:=(aD tN SS.kA λe=>jR SS.oc SS.kA Ja e).two';obtain⟨v4,v5,v6,v7⟩:=(aD tN SS.kB λe=>jR SS.oc SS.kB Ja e).three;unfold gP kS at l;clear tN oN mN SS V U u3 s1 s2 s3 s4 j1 j2 j3 j4 j5 kI ad;rcases HO.o with⟨h0,t,K⟩|⟨f,hf,he⟩
     focus
      subst h0 t K;have u:=l.setpc HZ.o rp;obtain⟨X,C⟩:=aN$ (((((A.setCell (qR y.heap.size 0)$ qI Z.pc).setCell (qR y.heap.size 1)$ qS (qP rb) 8 cp).setCell (qR P.heap.size 0)$ qS ai m1 l1).setCell (qR P.heap.size 1)$ qS aj m2 l2).setCell (qR P.heap.size 2)$ qS ak m3 l3).setCell (qR y.heap.size 0)$ qI rp;rw[<-C]at u;clear l HO;go_wp2_with fail
      rw[<-C];clear C v1 v2 v3 v4 v5 v6 v7
     rotate_left
     focus
      have hF:(f !=0)=true:=by simpa using hf
      injection he with i1 i2 i3 i4 i5 i6 i7
      subst i1 i2 i3 i4 i5 i6 i7;obtain⟨X,C⟩:=aN$ ((((A.setCell (qR y.heap.size 0)$ qI Z.pc).setCell (qR y.heap.size 1)$ qS (qP rb) 8 cp).setCell (qR P.heap.size 0)$ qS ai m1 l1).setCell (qR P.heap.size 1)$ qS aj m2 l2).setCell (qR P.heap.size 2)$ qS ak m3 l3;rw[<-C]at l;go_wp2_with fail
      rw[<-C];clear C v1 v2 v3 v4 v5 v6 v7 HO;have bz:=l.k3.lt;obtain⟨t1,t2,t3⟩:=l.k0.two';obtain⟨s1,s2,s3,s4⟩:=l.k1.three;have a6:=l.b.size;obtain⟨q1,q2,q3,q4,q5,q6,q7,q8,q9,ck⟩:w.heap.size≠w.heap.size+1+1/\w.heap.size≠w.heap.size+1+1+1/\w.heap.size+1≠w.heap.size+1+1/\w.heap.size+1≠w.heap.size+1+1+1/\w.heap.size+1+1≠w.heap.size+1+1+1/\w.heap.size+1+1≠w.heap.size/\w.heap.size+1+1+1≠w.heap.size/\w.heap.size+1+1≠w.heap.size+1/\w.heap.size+1+1+1≠w.heap.size+1/\w.heap.size+1+1+1≠w.heap.size+1+1:=J
      go_region_held3 (λM=>M.cell? (qR w.heap.size 0)=some (qI Z.pc)/\M.cell? (qR w.heap.size 1)=some (qS Z.ca 8 Z.cc)/\M.cell? (qR (w.heap.size+1) 0)=some (qS Z.a1 Z.n1 Z.c1)/\M.cell? (qR (w.heap.size+1) 1)=some (qS Z.a2 Z.n2 Z.c2)/\M.cell? (qR (w.heap.size+1) 2)=some (qS Z.a3 Z.n3 Z.c3)) (go_keep)
       (first
         | (go_at_call 71;refine(a9.o _ (by exact l.i.c)).mono ?_;rintro e V ⟨bm,b6,rfl,oC,bx⟩;replace bx:=aW bx;obtain⟨t1,t2,t3⟩:=(l.k0.bw bx).two';obtain⟨s1,s2,s3,s4⟩:=(l.k1.bw bx).three)
         | (go_at_call 72;refine(ac.o _ (l.i.m.bw bx) (l.i.n.bw bx)$ l.i.o.bw bx).mono ?_;rintro e U ⟨i1,q1,i2,q2,i3,q3,rfl,b3,Y⟩;have I:=bx.trans$ Y.mono bx.size;have oF:=OI.mono (OI.bw (by exact oC) Y) a6;have mF:=fM b3$ xM a6 bx.size;obtain⟨t1,t2,t3⟩:=(l.k0.bw I).two';obtain⟨s1,s2,s3,s4⟩:=(l.k1.bw I).three;obtain⟨z1,z2,z3⟩:=(l.k2.bw I).two';obtain⟨z4,z5,z6,z7⟩:=(l.k3.bw I).three)
         | (go_at_call 72;refine(ac.o _ (by exact l.i.m) (by exact l.i.n) (by exact l.i.o)).mono ?_;rintro e V ⟨i1,q1,i2,q2,i3,q3,rfl,mM,bx⟩;replace bx:=aW bx;obtain⟨t1,t2,t3⟩:=(l.k0.bw bx).two';obtain⟨s1,s2,s3,s4⟩:=(l.k1.bw bx).three)
         | (go_at_call 71;refine(a9.o _$ l.i.c.bw bx).mono ?_;rintro e U ⟨bm,b6,rfl,be,Y⟩;have I:=bx.trans$ Y.mono bx.size;have mF:=fM (bD (by exact mM) Y) a6;have oF:=be.mono$ xM a6 bx.size;obtain⟨t1,t2,t3⟩:=(l.k0.bw I).two';obtain⟨s1,s2,s3,s4⟩:=(l.k1.bw I).three;obtain⟨z1,z2,z3⟩:=(l.k2.bw I).two';obtain⟨z4,z5,z6,z7⟩:=(l.k3.bw I).three))
      all_goals
       obtain⟨cl,rfl⟩:=pY oF J;have s:=zh$ xA oF$ xA mF$ xA (l.k2.bw I)$ xA (l.k3.bw I)$ l.b.trans$ I.mono l.b.size;clear oF mF I l;go_wp2_with fail
       first|exact aCx s.o.1 s.o.2.1 s.o.2.2.1 s.o.2.2.2.1 s.o.2.2.2.2 rfl rfl rfl rfl (.inl rfl) (.inl rfl)|exact aCx s.o.1 s.o.2.1 s.o.2.2.1 s.o.2.2.2.1 s.o.2.2.2.2 rfl rfl rfl rfl (.inr rfl)$ .inl rfl
    rotate_left
    focus
     have hl:=SS.i.c.1;have bc:=World.block_lt_of_cell? w _$ (HA.o ▸ HZ.o.c:IS w (some$ qR cb co) 8 Z.cc Z.rg).at d.toNat J;dsimp only at bc;have a2:=zh λX=>λ(h:qY w9 X)=>(HA.o ▸ SS.i.c.bw h:IS X (some$ qR cb co) 8 Z.cc Z.rg);obtain⟨ay,az⟩:=HG.o d ⟨ar,au⟩;obtain⟨aw,ax⟩:=HG.o a ⟨af,ag⟩;have a7:d.toNat<8:=J
     have d8:d<8:=J
     have bu:a<8:=J
     have ah:a.toNat<8:=J
     have cd:=(a2.o w9 brf).at d.toNat a7;have ca:=(a2.o w9 brf).at a.toNat ah;have an:=zh λX h=>(a2.o X h).at d.toNat a7;have b1:=zh λX h=>(a2.o X h).at a.toNat ah;obtain⟨V,U,u3⟩:=SS.kA.two';obtain⟨e1,e2,e3⟩:=SS.k0.two';rw[HA.o]at e2;clear hl a2;by_cases hA:2<=o/\o<=13
     focus
      obtain⟨m2,av⟩:=hA
      obtain⟨rfl,rfl⟩:D=0/\N=0:=by
       have:=HE.o;unfold ev at this;rw[if_neg J,if_neg J,if_neg J,if_neg J]at this;injection this with t K
       exact⟨t,K⟩
      have g:=O.o;rw[aDn m2 av]at g;unfold m32 at g;rw[<-a5.o]at g;have b0:=zh λw=>aMf o d a i (Z.rg.getD d.toNat 0) (Z.rg.getD a.toNat 0) w m2 av a0 a1 ay az aw ax
      obtain⟨v0,v1⟩:0<=alu o i (Z.rg.getD d.toNat 0) (Z.rg.getD a.toNat 0)/\alu o i (Z.rg.getD d.toNat 0) (Z.rg.getD a.toNat 0)<=4294967295:=by
       have:=aEr a0 a1 ay az aw ax (o-2).toNat J;rw[this.1,show(((o-2).toNat+2:Nat):Int)=o from J]at this;exact this.2
      generalize alu o i (Z.rg.getD d.toNat 0) (Z.rg.getD a.toNat 0)=v at *;generalize Z.rg.getD d.toNat 0=zd at *;generalize Z.rg.getD a.toNat 0=za at *;subst g;clear HE O;obtain⟨cg,kc⟩:=SS.oc.blk;have bv:=(SS.oc.lt rb rfl).1;have bk:rb≠y.heap.size:=λe=>jR SS.oc SS.kA Ja (by rw[<-e];rfl);have b2:rb≠w7.heap.size:=λe=>jR SS.oc kI Ja (by rw[<-e];rfl);have bi:rb≠w.heap.size:=λe=>jR SS.oc SS.k0 Ja (by rw[<-e];rfl);have b4:rb≠cb:=J
      have c1:=bk.symm;have c8:=b2.symm;have c9:=bi.symm;have cc:=b4.symm;go_wp2_with fail
      go_region_held3 (λM=>M.cell? (qR y.heap.size 1)=some (qS (qP rb) 8 cp)/\M.cell? (qR w7.heap.size 0)=some (qI o)/\M.cell? (qR w7.heap.size 1)=some (qI d)/\M.cell? (qR w7.heap.size 2)=some (qI a)/\M.cell? (qR w7.heap.size 3)=some (qI i)/\M.cell? (qR w.heap.size 1)=some (qS (some$ qR cb co) 8 Z.cc)/\M.cell? (qR cb$ co+d.toNat)=some (qI zd)/\M.cell? (qR cb$ co+a.toNat)=some (qI za)) (go_keep)
       (first|(go_at_call 130;refine(b0.o _).mono ?_;rintro e A ⟨rfl,b⟩;replace b:=aW b;have p:=SS.step b;obtain⟨V,U,u3⟩:=p.kA.two';obtain⟨e1,e2,e3⟩:=p.k0.two';rw[HA.o]at e2;obtain⟨j1,j2,j3,j4,j5⟩:=(kI.bw b).four';have ab:=an.o _ b;have bf:=b1.o _ b;have aq:=p.oc.is.at d.toNat a7;simp only[Nat.zero_add]at aq;have b8:=(kc.bw b).frozen d.toNat))
      all_goals
       have SY:=p.reg HZ.o d.toNat a7 v ⟨J,J⟩;have u:=SY.setpc HZ.o nx;obtain⟨bp,bq,br⟩:=SY.kA.two';clear SS p SY V U u3 e1 e2 e3 j1 j2 j3 j4 j5 cd ca ab bf aq b8;obtain⟨X,C⟩:=aN$ (A.setCell (qR rb d.toNat)$ qI v).setCell (qR y.heap.size 0)$ qI nx;rw[<-C]at u;go_wp2_with fail
       rw[<-C];clear C bp bq br
     rotate_left
     focus
      have ho:o=1\/20<=o:=J
      have g:=O.o;rw[vZ ho]at g;unfold m32 at g;rw[<-a5.o,<-HE.o]at g;obtain⟨x0,x1⟩:=lF i a0 a1;have HJ:=zh λw=>aF7 o d a i (Z.rg.getD d.toNat 0) w;have b5:=zh λw=>lW i w a0 a1;have HQ:=zh λw=>dR (nx+4*eA i) w ⟨J,J⟩;obtain⟨tg,ae⟩:=aN$ (nx+4*eA i)%4294967296;rw[show(Z.pc+4+4*eA i)%4294967296=tg by rw[ae,a5.o];omega]at g;rw[<-ae]at HQ
      have hj:D≠0->jmp o (Z.rg.getD d.toNat 0)=false:=λh=>by
       have:=HE.o;unfold ev at this;unfold jmp;by_cases b7:o<=22/\20<=o
       .rw[if_neg J,if_neg J,if_neg J,if_neg J]at this;injection this with t K
        exact absurd t h
       .simp;omega
      have t:D=0->20<=o:=λh=>by
       have:=HE.o;rcases ho with rfl|ho
       .injection this with t K
        rw[h]at t;exact absurd t Ja
       .exact ho
      clear ae HE O;generalize eA i=xx at *;generalize jmp o (Z.rg.getD d.toNat 0)=ba at *;generalize Z.rg.getD d.toNat 0=zd at *;by_cases hD:D=0
      rotate_left
      focus
       have ce:(D==0)=false:=by simpa using hD
       rw[hj hD,if_neg Jb]at g;subst g;clear hj t;rcases ho with rfl|ho
       all_goals
        go_wp2_with fail
        go_quiet (fail)
       all_goals
        clear V U u3;replace SS:=SS.step$ below_drewN (Below.refl w9.heap.size w9) nq;obtain⟨V,U,u3⟩:=SS.kA.two';have u:=(SS.setpc HZ.o nx).did D N;clear SS e1 e2 e3 j1 j2 j3 j4 j5 cd ca;obtain⟨X,C⟩:=aN$ (w9.drewN nq).setCell (qR y.heap.size 0)$ qI nx;rw[<-C]at u;go_wp2_with fail
        rw[<-C];clear C V U u3
      rotate_right
      focus
       have b7:=t hD;subst hD;have ap:=zh g;clear g hj t ho;go_wp2_with fail
       go_region_held3 (λM=>M.cell? (qR w7.heap.size 0)=some (qI o)/\M.cell? (qR w7.heap.size 1)=some (qI d)/\M.cell? (qR w7.heap.size 2)=some (qI a)/\M.cell? (qR w7.heap.size 3)=some (qI i)/\M.cell? (qR w.heap.size 1)=some (qS (some$ qR cb co) 8 Z.cc)/\M.cell? (qR cb$ co+d.toNat)=some (qI zd)) (go_keep)
        (first|(go_at_call 131;refine(HJ.o _).mono ?_;rintro e A ⟨rfl,b⟩;replace b:=aW b;have p:=SS.step b;obtain⟨V,U,u3⟩:=p.kA.two';obtain⟨e1,e2,e3⟩:=p.k0.two';rw[HA.o]at e2;obtain⟨j1,j2,j3,j4,j5⟩:=(kI.bw b).four';have ab:=an.o _ b))
       all_goals
        have g:=ap.o;clear SS e1 e2 e3 cd ca ab ap;cases ba
        focus
         simp only[Bool.false_eq_true,reduceIte]at g;subst g;have u:=(p.setpc HZ.o nx).did 0 N;clear p j1 j2 j3 j4 j5;obtain⟨X,C⟩:=aN$ A.setCell (qR y.heap.size 0)$ qI nx;rw[<-C]at u;go_wp2_with fail
         rw[<-C];clear C V U u3
        rotate_left
        focus
         simp only[reduceIte]at g;subst g;have u:=(p.setpc HZ.o tg).did 0 N;clear p;go_wp2_with fail
         apply(b5.o _).mono;rintro e c5 ⟨rfl,rfl⟩;go_wp2_with fail
         apply(HQ.o _).mono;rintro e c0 ⟨rfl,rfl⟩;clear j1 j2 j3 j4 j5;obtain⟨X,C⟩:=aN$ A.setCell (qR y.heap.size 0)$ qI tg;rw[<-C]at u;go_wp2_with fail
         rw[<-C];clear C V U u3
 all_goals
  obtain⟨n1,n2,n3,n4,n5,n6,n7,n8⟩:=u.ne;obtain⟨t1,t2,t3⟩:=u.kA.two';obtain⟨s1,s2,s3,s4⟩:=u.kB.three;obtain⟨z1,z2,z3⟩:=u.k2.two';obtain⟨z4,z5,z6,z7⟩:=u.k3.three;have s:=zh u;clear u;go_wp2_with fail
  go_region
  all_goals
   go_wp2_with fail
   first|exact aCx s.o.oc s.o.om s.o.k2 s.o.k3 s.o.b rfl rfl rfl rfl (.inl rfl) (.inr rfl)|exact aCx s.o.oc s.o.om s.o.k2 s.o.k3 s.o.b rfl rfl rfl rfl (.inr rfl)$ .inr rfl
def MOk.plq {w:qw}(h:MOk M)(d:MnD w M):plQ M.cn M.L=plR (aF M.ms) M.L M.md M.bk (hld M.lz M.md M.bk):=by
 have a:=h.cv d;let⟨_,_,b,c2,_⟩:=a.cf;refine if_pos (h.p.2 M.md M.bk _ h.n.1 ?_);have s:=a.cz.s;have n:=h.n.2;unfold sOk;by_cases c:M.bk=-1\/M.L.slots=[]
 .rw[if_pos c];rcases c with c|c
  .show hld M.lz M.md M.bk=-1;rw[c];exact aD4 a.s M.md
  .grind
 .rw[if_neg c];have f:hld M.lz M.md M.bk=-1\/(M.bk≠-1/\0<=hld M.lz M.md M.bk/\hld M.lz M.md M.bk<(M.L.slots.length:Int)):=s;rcases f with e|e
  .exfalso;rcases n with q|q|q
   .refine c (.inr$ List.eq_nil_of_length_eq_zero ?_);have:(M.L.slots.length:Int)=M.cs:=b;omega
   .grind
   .grind
  .exact e.2
abbrev Mn.nx (M:Mn)(r:Res)(ka:qO)(kc:Nat)(fa:qO)(fn fc:Nat)(ra:qO)(rn rc:Nat)(oa:qO)(on oc:Nat):Mn:={ M with pc:=r.pc,ka:=ka,kn:=8,kc:=kc,kz:=r.rg,fa:=fa,fn:=fn,fc:=fc,fz:=r.x1,ra:=ra,rn:=rn,rc:=rc,rz:=r.x2,oa:=oa,on:=on,oc:=oc,oz:=r.x3 }
def wG {w X:qw}{e:List (PMod×Mb)}{b rb kc:Nat}{fa ra oa:qO}{fn fc rn rc on oc:Nat}(h:MnD w M)(H:MnS w M e)(a:MOk M)(d:qY w X)(k:Stk (M.cn.z M.L) M.pc M.kz (M.cn.r M.L))(o:OI X b (qS (qP rb) 8 kc) (M.cn.r M.L).rg)(q:cB X b (qS fa fn fc) (qS ra rn rc) (qS oa on oc) (M.cn.r M.L).x1 (M.cn.r M.L).x2 (M.cn.r M.L).x3):
 MnD X (M.nx (M.cn.r M.L) (qP rb) kc fa fn fc ra rn rc oa on oc)/\MnS X (M.nx (M.cn.r M.L) (qP rb) kc fa fn fc ra rn rc oa on oc) e/\MOk (M.nx (M.cn.r M.L) (qP rb) kc fa fn fc ra rn rc oa on oc):=by
 have cv:=(a.cv h).stp k;unfold Cn.n at cv;generalize M.cn.r M.L=r at *;have j:=cS q.1;have f:=cS q.2.1;have i:=cS q.2.2.1;have g:=uE cv.b;have:r.x1.length<=16384/\r.x2.length<=16384/\r.x3.length<=5000:=g;refine⟨⟨h.m.bw d,o.is,q.1.bs,q.2.1.bs,q.2.2.1.bs,h.l.bw d,h.h.bw d⟩,⟨⟨H.a.1,rb,0,rfl⟩,H.m.bw d,H.n,H.e,o.is,q.1.mono$ xC _,q.2.1.mono$ xC _,q.2.2.1.mono$ xC _,H.l.bw d,H.h.bw d,⟨H.z.1,by grind,by grind,H.z.2.2.2.1,H.z.2.2.2.2⟩⟩,?_⟩;refine⟨a.l,a.p,?_,?_,?_,?_,a.t,cv.s,a.n,a.h⟩
 .show cok r.pc 8 r.rg=true;unfold cok;simp only[Bool.and_eq_true,decide_eq_true_eq,List.all_eq_true];exact⟨⟨k.w.1,k.w.2,trivial⟩,k.g⟩
 .show mok fn rn on=true;rw[j,f,i];exact cv.b
 .show imF (aF M.ms) M.L=r.x1;rw[k.a];exact a.f
 .show(rn:Int)=M.L.ram;rw[f];exact cv.r
def aIf (M Ls)(Y:Lyb)(m b t w)(h:MnD w M)(H:MnS w M Ls)(hl:Y.T w)(eY:Y.L=M.L)(ok:MOk M)(hc:atB M.cn Y.L M.pc=true/\M.tn<1000000000/\tgk (aF M.ms) m b t)(hd:(M.hn:Int)<M.cd):Calls Tryz.prog 135 #[.agg$ qA M,.agg$ qL Y.L Y.a0 Y.xs.length Y.c0 Y.a2 Y.L.slots.length Y.c2 Y.a5 Y.ts.length Y.c5,.agg$ qT m b t] w (MQ w (qI 0)$ tM M.cn Y.L m b t):=by
 have hv:Cv M.cn Y.L:=by rw[eY];exact ok.cv h
 let⟨az,ay⟩:=ok.pcd;let⟨U,hU,bU,kM,kL,kT,kR⟩:=zN M Y m b t w;have ap:=zh$ bE M Ls U$ H.bw bU;have p:=zh$ xA kM$ xA kL$ xA kT kR;have ac:=zh λ(X:World)(P:qY U X)=>eP M Y M.pc X ((h.bw bU).bw P) ((hl.bw bU).bw P) hv az;have aq:=zh λ(X:World)(P:qY U X)=>mZ M m b t X$ (h.bw bU).bw P;let⟨R,hR⟩:=aN$ atB M.cn Y.L M.pc;let⟨A,hA⟩:=aN$ awy M.cn Y.L M.pc;rw[<-hR,<-hA]at ac;obtain rfl:R=true:=by rw[hR];exact hc.1
 have HC:=zh$ xA hc.2.2 hc.2.1;have W:=zh$ xA (h.bw bU)$ xA (hl.bw bU) hv;let⟨D,hD⟩:=aN$ M.kz.getD 7 0;have b1:=zh (show psC M.cn Y.L={ M.cn with hz:=M.hz++[(M.md,M.bk,A/4,D)] } by unfold psC;rw[hA,hD];rfl)
 have ak:=zh (show ∃gk ok,M.ka=some ⟨gk,ok,none⟩/\(M.kn=8)/\U.cell? ⟨gk,ok+7,none⟩=qj D by
  have e8:M.kn=8:=by have:=hv.g;have e:=h.k.1;show M.kn=8;rw[<-e];exact this
  let⟨gk,ok,e,hc⟩:=(h.k.bw bU).2.2.2.1 J;refine⟨gk,ok,e,e8,?_⟩;rw[hD]
  exact hc 7 J)
 have a8:=zh$ xA h.h.1 ay;have c1:=hd;have HU:=zh hU;have ai:=zh bU;let⟨m0,m1,m2,m3,m4,m5,m6,m7,m8,m9,a0,a1,a2,a3,a4⟩:=kM.mc;clear hU bU kM kL kT kR h H hl eY ok hv az ay hA hR hc hD hd
 go_in
 go_wp2_with (rw[<-HU.o])
 apply ap.mono;rintro e s ⟨aj,N,a5,aP,L,β,rfl,hm,an,ar⟩;unfold mnV;let⟨V,hV,bV,kA⟩:=nwb s (qA N) 43;have q:=yT aj bV;have be:=zh$ yT ai q;have O:=zh q;have Q:=zh λ(X:World)(P:qY V X)=>xA ((p.1.bw q).bw P)$ xA ((p.2.1.bw q).bw P)$ xA ((p.2.2.1.bw q).bw P)$ xA ((p.2.2.2.bw q).bw P)$ kA.bw P;have x:=zh$ xA (hm.bw bV)$ xA an$ xA ar$ xA aj.size p.2.2.2.lt;have HV:=zh hV;clear m0 m1 m2 m3 m4 m5 m6 m7 m8 m9 a0 a1 a2 a3 a4 aj hm an ar hV bV kA q ap HU;let⟨m0,m1,m2,m3,m4,m5,m6,m7,m8,m9,a0,a1,a2,a3,a4⟩:=(Q V brf).1.mc;have l0:=(Q V brf).2.1.z6;go_wp2_with (rw[<-HV.o])
 apply(ac V O).mono;rintro e X2 ⟨rfl,av⟩;have a7:=zh av;clear m0 m1 m2 m3 m4 m5 m6 m7 m8 m9 a0 a1 a2 a3 a4 l0 av ac HV;let⟨m0,m1,m2,m3,m4,m5,m6,m7,m8,m9,a0,a1,a2,a3,a4⟩:=(Q X2 a7).1.mc;have t0:=(Q.o X2 a7.o).2.2.1.three;have ad:=zh$ aq.o X2$ O.o.trans$ a7.o.mono O.o.size;rw[xR HC.o]at ad;clear aq;go_wp2_with fail
 apply ad.o.mono;rintro e y ⟨rfl,ao⟩;have d:=zh$ yT a7 ao;clear ao t0 ad;clear m0 m1 m2 m3 m4 m5 m6 m7 m8 m9 a0 a1 a2 a3 a4;let⟨m0,m1,m2,m3,m4,m5,m6,m7,m8,m9,a0,a1,a2,a3,a4⟩:=(Q y d).1.mc;have bf:¬M.cd<=(M.hn:Int):=J
 have hN:M.hn<=100:=by have:M.cd<=100:=a8.2;omega
 let⟨gk,a9,ek,e8,u7⟩:=ak.o;have b6:gk<U.heap.size:=xD U _ u7;have u7:=aB (yT O d) u7;rw[ek,e8]at m6;have a6:=x.1.bw d;have en:N.hn=M.hn:=by rw[fP a6.h];exact a8.o.1
 have kA:=(Q y d).2.2.2.2;have b3:y.cell? ⟨s.heap.size,13,none⟩=qk N.ha M.hn N.hc:=by rw[<-en];exact kA.cell 13
 have b2:(y.alloc$ .cells (qW M.md M.bk (A/4) D) 136).cell? ⟨s.heap.size,13,none⟩=qk N.ha M.hn N.hc:=by rw[<-en];exact(kA.alloc _).cell 13
 have ag:=zh (λ(Z:World)(hZ:qY y Z)=>show(Z.alloc$ .cells (qW M.md M.bk (A/4) D) 136).ownsRow aP 136 4 (qS N.ha M.hn N.hc) M.hn (M.hz.flatMap bM)by
  have:=(a6.h.bw hZ).bw (w':=Z.alloc$ .cells (qW M.md M.bk (A/4) D) 136) bal;unfold OG at this;rw[en,show M.cn.hz=M.hz from rfl,a8.o.1]at this
  exact this)
 have af:=zh λ(Z:World)=>cA Z (qW M.md M.bk (A/4) D) 136 (bM (M.md,M.bk,A/4,D)) rfl
 have ah:=zh (λ(Z:World)(hZ:qY y Z)=>show aP<=(Z.alloc$ .cells (qW M.md M.bk (A/4) D) 136).heap.size by
  have:=hZ.size;have:=d.size;have:=(Q V brf).2.2.2.2.lt;have:=x.2.2.1;simp
  omega)
 have ab:=zh (λ(Z:World)(hZ:qY y Z)(g c:Nat)(C:World)(f:C.ownsRow aP 136 4 (qS (qP g) (M.hn+1) c) (M.hn+1) (M.hz.flatMap bM++bM (M.md,M.bk,A/4,D)))(a:(Z.alloc$ .cells (qW M.md M.bk (A/4) D) 136).grownBy C (qS N.ha M.hn N.hc).ownBlock)=>show Blk C s.heap.size (qA N) 43/\qY U C/\MxO C a5 aP (psC M.cn Y.L) { N with ha:=qP g,hn:=M.hn+1,hc:=c,hz:=M.hz++[(M.md,M.bk,A/4,D)] } L β/\(C.cell? ⟨w.heap.size,10,none⟩=qj M.md/\C.cell? ⟨w.heap.size,11,none⟩=qj M.bk/\C.cell? ⟨w.heap.size,6,none⟩=qk (some ⟨gk,a9,none⟩) 8 M.kc/\C.cell? ⟨gk,a9+7,none⟩=qj D)by
  have B:=hZ.trans$ (bal (w:=Z) (o:=(.cells (qW M.md M.bk (A/4) D) 136))).mono hZ.size;have mA:=a6.bw B;rw[<-en]at a;have BU:=yT (yT O d) B
  refine⟨dD (kA.bw B) a (λe=>by
   let⟨_,k1⟩:=aE mA.h e.symm
   exact absurd (aH k1$ kA.bw B) Ja),zR BU a (λk hk=>by have:=(mA.h.lt k hk).1;have:=mA.bm;have:=x.o.2.1;omega),by rw[b1.o];exact mA.push a$ aKb a8.o.1 f,?_⟩
  have ae:=dD ((Q y d).1.bw B) a (λe=>by
   let⟨_,k1⟩:=aE mA.h e.symm
   exact absurd (aH k1$ (Q y d).1.bw B) Ja)
  exact⟨ae.cell 10,ae.cell 11,by rw[<-ek,<-e8];exact ae.cell 6,a.cell (aB B u7) (λe=>by have:=(mA.h.lt gk e.symm).1;have:=mA.bm;have:=x.o.2.1;omega)⟩)
 let⟨iF,b8,b9,ba,bb⟩:=info_parts yH;have aw:=zh λ(E:World)(N1:Mn)(I:MxO E a5 aP (psC M.cn Y.L) N1 L β)(b5:qY U E)=>tV U a5 aP L β Y _ N1 m b t E I b5 x.2.1 W.2.1 ⟨W.2.2.k,W.2.2.e,W.2.2.b,W.2.2.r,W.2.2.g,W.2.2.s,W.2.2.n,W.2.2.t⟩ HC.2 HC.1;have n1:¬gk=s.heap.size:=jK x.2.2.2.1;have n2:¬s.heap.size=gk:=jK x.2.2.2.1;have n3:¬w.heap.size=s.heap.size:=jL x.2.2.2.1 x.2.2.2.2;have n4:¬s.heap.size=w.heap.size:=jL x.2.2.2.1 x.2.2.2.2;clear a6 en kA ek e8 ak b6 m0 m1 m2 m3 m5 m7 m8 m9 a2 a4;go_wp2;apply aV4 (F:=λ(g4 c4:Nat)(E:World)=>Blk E s.heap.size (qA { N with ha:=qP g4,hn:=M.hn+1,hc:=c4,hz:=M.hz++[(M.md,M.bk,A/4,D)] }) 43/\qY U E/\MxO E a5 aP (psC M.cn Y.L) { N with ha:=qP g4,hn:=M.hn+1,hc:=c4,hz:=M.hz++[(M.md,M.bk,A/4,D)] } L β)
 .intro G;have b0:=zh G;clear G;refine wp_region_held_drew (S:=λw'=>w'.cell? ⟨w.heap.size,10,none⟩=qj M.md/\w'.cell? ⟨w.heap.size,11,none⟩=qj M.bk/\w'.cell? ⟨w.heap.size,6,none⟩=qk (some ⟨gk,a9,none⟩) 8 M.kc/\w'.cell? ⟨gk,a9+7,none⟩=qj D) Je ?_ λhHeld=>?_
  .go_keep
  refine tkW 0 rfl ?_;try simp only[yG,Act.put]
  refine tkW 2 rfl ?_;try simp only[yG,Act.put]
  refine tkW 3 rfl ?_;try simp only[yG,Act.put]
  refine tkW 4 rfl ?_;try simp only[yG,Act.put]
  refine tkW 5 rfl ?_;try simp only[yG,Act.put]
  refine tkW 6 rfl ?_;try simp only[yG,Act.put]
  refine tkW 7 rfl ?_;try simp only[yG,Act.put]
  refine tkW 8 rfl ?_;try simp only[yG,Act.put]
  refine tkW 9 rfl ?_;try simp only[yG,Act.put]
  refine tkW 10 rfl ?_;try simp only[yG,Act.put]
  refine tkW 11 rfl ?_;try simp only[yG,Act.put]
  refine tkW 12 rfl ?_;try simp only[yG,Act.put]
  have b7:=hHeld;refine wpAnyH_ready (rs:=[1,13]) Je Jb$ AllReadyH.cons rfl (λK i=>?_)$ AllReadyH.cons rfl (λK i=>?_) AllReadyH.nil
  focus
   go_simp;refine i.out _ _ ?_ λhHeld=>?_
   .exact b7
   clear i K;try simp only[yG,Act.put]
   refine wpAnyH_ready (rs:=[13]) Je Jb$ AllReadyH.cons rfl (λK i=>?_) AllReadyH.nil;go_simp;refine i.out _ _ ?_ λhHeld=>?_
   ·(try dsimp only);go_keep
   clear i K;try simp only[yG,Act.put]
  rotate_left
  focus
   go_simp;refine i.out _ _ ?_ λhHeld=>?_
   ·(try dsimp only);go_keep
   clear i K;try simp only[yG,Act.put]
   refine wpAnyH_ready (rs:=[1]) Je Jb$ AllReadyH.cons rfl (λK i=>?_) AllReadyH.nil;go_simp;refine i.out _ _ ?_ λhHeld=>?_
   .assumption
   clear i K;try simp only[yG,Act.put]
  all_goals
   refine wpAnyH_ready (rs:=[14]) Je Jb$ AllReadyH.cons rfl (λK i=>?_) AllReadyH.nil;refine step_append_lies _ (by rfl) _ _ 41 (by rfl) aP 136 iF _ 4 _ Tryz.underlying41 b8 b9 ba bb rfl Ja (qS N.ha M.hn N.hc) M.hn (M.hz.flatMap bM) (by rfl) (by first|exact ag.o _ brf|exact ag.o _ brf.drew) ⟨y.heap.size,0,none⟩ 1 1 (bM (M.md,M.bk,A/4,D)) (by rfl) (by rfl) (by first|exact af.o y|exact af.o y.drew) (by intro u hu;simp[bM]at hu;rcases hu with rfl|rfl|rfl|rfl<;>rfl) Ja Jf J (by first|exact ah.o _ brf|exact ah.o _ brf.drew) _ rfl ?_;intro g4 c4 C f a _ _;have l:=zh (by first|exact ab.o _ brf _ _ _ f a|exact ab.o _ brf.drew _ _ _ f a);have p4:=l.o.1.e13;have f4:=l.o.1.frozen 13;obtain⟨bc,bd,y6,y7⟩:=l.o.2.2.2;clear f a;refine i.out _ _ ?_ λhHeld=>?_
   .exact⟨bc,bd,y6,y7⟩
   clear i K;try simp only[yG,Act.put]
   refine tkW 15 rfl ?_;try simp only[yG,Act.put]
   refine wpAnyH_ready (rs:=[16]) Je Jb$ AllReadyH.cons rfl (λK i=>?_) AllReadyH.nil;go_simp;refine i.out _ _ ?_ λhHeld=>?_
   ·(try dsimp only);go_keep
   clear i K;try simp only[yG,Act.put]
   refine wpAnyH_done Je ?_ _
   have am:=zh (show Blk (C.setCell ⟨s.heap.size,13,none⟩$ qS (qP g4) (M.hn+1) c4) s.heap.size (qA { N with ha:=qP g4,hn:=M.hn+1,hc:=c4,hz:=M.hz++[(M.md,M.bk,A/4,D)] }) 43/\qY U (C.setCell ⟨s.heap.size,13,none⟩$ qS (qP g4) (M.hn+1) c4)/\MxO (C.setCell ⟨s.heap.size,13,none⟩$ qS (qP g4) (M.hn+1) c4) a5 aP (psC M.cn Y.L) { N with ha:=qP g4,hn:=M.hn+1,hc:=c4,hz:=M.hz++[(M.md,M.bk,A/4,D)] } L β by
    have T5:=aC C s.heap.size 13$ qS (qP g4) (M.hn+1) c4
    exact⟨l.1.set 13$ qS (qP g4) (M.hn+1) c4,aG l.2.1 T5 (λj hj=>jK x.2.2.2.1) l.2.1.size,l.2.2.1.tm$ eZ l.1 T5⟩)
   generalize C.setCell ⟨s.heap.size,13,none⟩ (qS (qP g4) (M.hn+1) c4)=E at am⊢;exact b0 g4 c4 E am
 .rintro g4 c4 E ⟨k5,b5,I⟩;show Exit.then _ _ _ _ _
  let⟨N1,ax⟩:=aN ({ N with ha:=qP g4,hn:=M.hn+1,hc:=c4,hz:=M.hz++[(M.md,M.bk,A/4,D)] }:Mn);rw[<-ax]at k5 I;have HL:=zh$ aw.o E N1 I b5;have p0:=k5.mc;have l0:=(p.o.2.1.bw b5).z6;have t0:=(p.o.2.2.1.bw b5).three;clear ax k5 b5 I ag af ah ab aw b3 b2 u7 m4 m6 a0 a1 a3 n1 n2 n3 n4;go_wp2_with fail
  apply HL.o.mono;rintro e X4 ⟨M',rfl,au,aa,_⟩;have kr:=p.2.2.2.bw aa;have KR:=kr;unfold z15 at KR;have r0:=KR.mc;have rf:=KR.frozen
  have HF:=zh (show MQ w (qI 0) (tM M.cn Y.L m b t) (.returned$ .tuple #[.agg$ qA M',qI 0]) (stM X4 (w.heap.size+1+1+1) M')by
   exact aDs (yT ai aa) kr J au$ xM ai.size x.2.1)
  have b4:=zh kr;clear au aa kr KR HL;go_wp2;exact aEf M' rfl b4 rfl rfl HF
def pF (M i)(Y:Lyb)(m b t w)(h:MnD w M)(H:MnS w M i)(g:Y.T w)(f:Y.L=M.L)(a:MOk M):Calls Tryz.prog 135 #[.agg$ qA M,.agg$ qL Y.L Y.a0 Y.xs.length Y.c0 Y.a2 Y.L.slots.length Y.c2 Y.a5 Y.ts.length Y.c5,.agg$ qT m b t] w (MQ w (qI$ gL M.cn Y.L m b t)$ if gL M.cn Y.L m b t=0 then tM M.cn Y.L m b t else M.cn):=by
 have e:(M.cn.hz.length:Int)=M.hn:=by rw[show M.cn.hz.length=M.hn from h.h.1]
 unfold gL;rw[e];by_cases c:atB M.cn Y.L M.cn.pc=true/\M.cn.tn<1000000000/\tgk M.cn.ps m b t
 .rw[if_pos c];by_cases d:(M.hn:Int)<M.cd
  .rw[if_pos (show(M.hn:Int)<M.cn.cd from d),if_pos rfl];exact aIf M i Y m b t w h H g f a c d
  .rw[if_neg (show ¬(M.hn:Int)<M.cn.cd from d),if_neg Ja];exact aDz M i Y m b t w h H g f a c d
 .rw[if_neg c,if_neg Ja];exact aIg M i Y m b t w h H g f a c
def RX (C:Cn)(lo:Nat)(N:Mn)(W:qw):Prop:=∃base aP L β,MxO W base aP C N L β/\lo<=base
def RX.tm {W W':qw}(h:RX C lo N W)(t:TMx W W'):RX C lo N W':=by
 obtain⟨a,aP,L,d,h,b⟩:=h;exact⟨a,aP,L,d,h.tm t,b⟩
def RX.bw {W W':qw}(h:RX C lo N W)(a:qY W W'):RX C lo N W':=h.tm$ fC a
def RX.turn {W W':qw}{S:Nat->Prop}(h:RX C lo N W)(t:Turn S W W')(hS:∀j,S j->j<lo):RX C lo N W':=by
 obtain⟨d,aP,L,e,h,b⟩:=h;exact⟨d,aP,L,e,h.turn t λj a=>Nat.lt_of_lt_of_le (hS j a) b,b⟩
def RX.mnd {W:qw}(h:RX C lo N W)(hn:C.ps.length<=1048576):MnD W N:=by
 obtain⟨a,aP,L,d,h,b⟩:=h;refine h.mnd ?_;have:=h.len;have:=congrArg List.length h.e
 grind
def RX.sam {a:Nat}{N':Mn}{W d:qw}(h:RX C lo N W)(b:RX C a N' d):Sam N N':=by
 obtain⟨_,_,_,_,h,_⟩:=h;obtain⟨_,_,_,_,b,_⟩:=b;exact h.sam b
section
variable {n kb ks:Nat}{P:Nat->Value->World->Prop}{R:Mn->World->Prop}{slot:Nat->Nat}{sl:List Nat}{W0 W:qw}{A a:Act}{listed:Array Bool}
end
def aCl (f g:Nat->Nat):∀n,(∀j,j<n->f j<=g j)->upS f n<=upS g n
 | 0,_=>aO
 | n+1,h=>by
   have:=aCl f g n λj d=>h j J;have:=h n J;unfold upS;omega
def aJs (f:Nat->Nat):∀n,upS (λj=>2+3*f j) n=2*n+3*upS f n
 | 0=>rfl
 | n+1=>by
   have:=aJs f n;unfold upS;omega
def aTt {m:Md}{w:qw}(h:m.mt w):szc m.pm<=2+3*m.size:=by
 have e1:=h.t.1;have e2:=h.b.1;have e3:=h.d.1;have e4:=h.r.1;have e5:=h.i.1;have e6:=h.e.1
 have d:(m.pm.bl.map List.length).sum<=upS (λj=>(m.bl.getD j zB).2.1) m.bn:=by
  have q:=aCj (λB:Bk=>B.2.2.2.length) zB m.bl;have:(m.pm.bl.map List.length).sum=(m.bl.map λB=>B.2.2.2.length).sum:=by unfold Md.pm;simp only[List.map_map];rfl
  rw[this,<-q,e2];exact aCl _ _ _ (λj b=>by rw[(h.b.2.2.2.1 j b).1];exact aO)
 unfold szc Md.size dL;show 2+m.tz.length+_+m.dz.length+m.rz.length+m.ss.length+3*m.es.length<=_;omega
def aRt {w:qw}(t:MnT w M)(b:MnB M):mkn M.cn+3*M.kn<=4194305:=by
 have l:=t.m.1
 have s1:((aF M.ms).map szc).sum<=2*M.mn+3*upS (λj=>(M.ms.getD j aL).size) M.mn:=by
  have q:=aCj (λm:Md=>szc m.pm) aL M.ms;have:((aF M.ms).map szc).sum=(M.ms.map λm=>szc m.pm).sum:=by unfold aF;rw[List.map_map];rfl
  rw[this,<-q,l,<-aJs];exact aCl _ _ _ λj d=>aTt$ t.m.2.2.2.1 j d
 have bs:=b.s;have g:=t.k.1;have e:=t.f.1;have k:=t.r.1;have p:=t.o.1;have f:=t.l.1;have i:=t.h.1;unfold mkn Mn.cn
 grind
def aGv {L:Lay}(d:Cv C L){m b:Int}(e:0<=pcq C.ps m b)(t):mkn (eG C L m b t)=mkn C/\(eG C L m b t).ps=C.ps:=by
 unfold eG;by_cases K:C.lz.length≠0/\b≠-1
 .rw[if_pos K];have hs:=d.slot$ oU (xs:=C.lz) m b K.1;refine⟨?_,rfl⟩;unfold mkn;rw[List.length_set,List.length_set,nP _ _ _ (by rw[aSn];exact hs.2.1)]
 .rw[if_neg K];refine⟨?_,rfl⟩;unfold mkn
  grind
end Go.Proofs.YtdjdcdnjjmjonaaGreat
namespace Go.Proofs.YtdjdcdnjjmjonaaGreat
open Go.ChangeShapes Go.WideShapes Go.ChangeAt Go.RowKit
variable {base fuel:Nat}{cs:List Value}{held:Bool}
set_option maxRecDepth 100000 in
def aDt {H:Type}{enc:TypeId×Value->H}{w:qw}{base:Nat}{S:Bool}{R:Nat}{cs:List Value}{x:DataW H×List MemPlace}
 (h:DataW.trod enc Tryz.prog w base (λ_=>true) S R 103 cs=some x):∃m:Md,cs=m.cells.toList/\m.mt w:=by
 let⟨xs,n,_,_,B,U,a⟩:=DataW.trod_struct Tryz.underlying103 h;have e8:Tryz.prog.cellsOf 103=8:=Je
 rw[e8]at B
 match xs,U,cs,B with
 | [y0,y1,y2,y3,y4,y5,y6,y7],_,[c0,c1,c2,c3,c4,c5,c6,c7],_=>
 have b:=a 0 _ rfl;have g:=a 1 _ rfl;have d:=a 2 _ rfl;have i:=a 3 _ rfl;have k:=a 4 _ rfl;have e:=a 5 _ rfl;have f:=a 6 _ rfl;have j:=a 7 _ rfl;have e1:Tryz.prog.cellsOf 3=1:=Je
 have e2:Tryz.prog.cellsOf 9=1:=Je
 have e3:Tryz.prog.cellsOf 25=1:=Je
 have e4:Tryz.prog.cellsOf 99=1:=Je
 have e5:Tryz.prog.cellsOf 28=1:=Je
 have e6:Tryz.prog.cellsOf 100=1:=Je
 have e7:Tryz.prog.cellsOf 101=1:=Je
 simp[e1,e2,e3,e4,e5,e6,e7]at b g d i k e f j;let⟨Y,l,_,w0⟩:=DataW.trod_string Tryz.underlying9 b;let⟨ta,tn,tc,tz,p,w1⟩:=lY g;let⟨C,F,D,E,q,w2⟩:=aG2 d;let⟨I,M,K,N,s,w3⟩:=mG i;let⟨G,t,_,w4⟩:=DataW.trod_int Tryz.underlying3 k;let⟨Z,rn,rc,rz,u,w5⟩:=lY e;let⟨V,X,W,ss,y,w6⟩:=aG9 f;let⟨O,Q,P,es,A,w7⟩:=aHd j;simp at l p q s t u y A;subst l p q s t u y A;exact⟨⟨Y,ta,tn,tc,tz,C,F,D,E,I,M,K,N,G,Z,rn,rc,rz,V,X,W,ss,O,Q,P,es⟩,rfl,w0,w1,w2,w3,wf_i64 w4,w5,w6,w7⟩
set_option maxRecDepth 100000 in
def aH1 {H:Type}{enc:TypeId×Value->H}{w:qw}{x:DataW H×List MemPlace}
 (h:DataW.trod enc Tryz.prog w base (λ_=>true) held fuel 22 cs=some x):∃a n f ms,cs=[qS a n f]/\MS w a n f ms:=by
 have e1:Tryz.prog.cellsOf 103=8:=Je
 rcases Deep.open_slice Tryz.underlying22 h with⟨k,_⟩|⟨a,len,f,m,n,D,Pl,k,y,t,u,l,hx,hd⟩
 .exact⟨none,0,0,[],k,rfl,Nat.zero_le _,λh=>absurd rfl h,λi hi=>J,aO⟩
 .simp at l;rw[l]at hd;rw[e1]at hd
  haveI:Inhabited Md:=⟨aL⟩
  let⟨G,C⟩:=Deep.choose_lt (α:=Md) (p:=λi g=>(∃d,w.cells? base (a.add$ i*8) 8=some d/\d=g.cells.toList)/\g.mt w) (n:=len) (λi hi=>by
   let⟨d,B,A⟩:=hd i J;let⟨s,e,I⟩:=aDt A
   grind)
  have q:∀i,i<len->((List.range len).map G).getD i aL=G i:=λi hi=>by grind
  refine⟨some a,len,f,(List.range len).map G,k,Jb,J,?_,λi hi=>by grind,t⟩;intro K;obtain⟨b,E,F⟩:=a
  have j:F=none:=by
   let⟨⟨d,B,A⟩,_⟩:=C 0 J;have:=(World.cells?_some B).2.2 0 J;rw[A]at this;simpa[Addr.add,Md.cells]using World.cell?_spot this
  subst j;refine⟨b,E,rfl,λi hi=>?_⟩;let⟨⟨d,B,A⟩,_⟩:=C i hi;have hc:=(World.cells?_some B).2.2;rw[A]at hc;rw[q i hi];simp only[aJm]at hc;exact⟨hc 0 J,hc 1 J,hc 2 J,hc 3 J,hc 4 J,hc 5 J,hc 6 J,hc 7 J⟩
set_option maxRecDepth 100000 in
def aIq {H:Type}{enc:TypeId×Value->H}{w:qw}{x:DataW H×List MemPlace}
 (h:DataW.trod enc Tryz.prog w base (λ_=>true) held fuel 25 cs=some x):∃a n g zs,cs=[qS a n g]/\IS w a n g zs:=by
 rcases open_ints Tryz.underlying25 Tryz.underlying3 Je h with⟨f,_⟩|⟨x,l,c,zs,f,_,q,t,y,_,d,j⟩
 .exact⟨none,0,0,[],f,rfl,Nat.zero_le _,Jb,λh=>absurd rfl h,aO⟩
 .simp at y;refine⟨some x,l,c,zs.take l,f,Jc,J,λz k=>wf_i64$ j z$ List.mem_of_mem_take k,λs=>?_,q⟩;obtain⟨b,u,A⟩:=x;have e:A=none:=by simpa[Addr.add]using World.cell?_spot$ d 0 J
  subst e;refine⟨b,u,rfl,λi hi=>?_⟩;have:=d i J
  have p:(Addr.add (qR b u) i)=(qR b$ u+i):=by
   simp only[Addr.add];split
   .next h=>subst h;rfl
   .rfl
  rw[p]at this;rw[this];simp[List.getD_eq_getElem?_getD,hi]
set_option maxRecDepth 100000 in
def rS:joinedFacts Tryz.pinned.checked.prog 3 Tryz.f3 Rows.fnExactTickSpec Rows.fnExactTickRow=true:=by
 unfold joinedFacts;simp only[Bool.and_eq_true]
 repeat' apply xA
 all_goals(as_aux_lemma=>kernel_rfl)
def sJ:Tryz.pinned.checked.prog.funcNamed Rows.fnExactTickRow.func=some 3:=Je
