import Derived.Laws.AppendOwnNone
import Derived.Test.YtdjdcdnjjmjonaaGreatT04
set_option linter.all false
set_option maxHeartbeats 40000000
namespace Go.Proofs.YtdjdcdnjjmjonaaGreat
open Go.RowKit
open Go.Proofs.Tryz
set_option maxRecDepth 100000
variable {c d k s:Int}
def aMe (a n br ms s c k d w)(h:MSD w a n br ms)(hn:n<=4)(cu:cfo s c k d=true)(hv:jH (aF ms))(hi:oH (aF ms)):
 qC 112 #[qS a n br,.agg$ qW s c k d] w λe w'=>qY w w'/\∃X c0 xs a2 c2 Q c5 ts,e=.returned (.agg$ oG (lay (aF ms) s c k) X c0 xs a2 c2 Q c5 ts)/\LayO w' w.heap.size (lay (aF ms) s c k) X c0 xs a2 c2 Q c5 ts:=by
 have N0:=aR1 w s c k d$ aF ms;have hl:=h.s.1;have cs:(aF ms).length=n:=by rw[cK,hl]
 have HH:=aR h;have HI:=aR hi;have a6:=aR hv;let⟨fm,db,fh,fi,fj,fk,fl,_⟩:=of_decide_eq_true cu;have HN:=aR N0;clear h N0 hi cu
 delta qC;go_in
 go_wp2;go_loopw [6,7] (λx i wr=>∃(m:Nat) (X:qO) (c0:Nat) (xs:List PB) (Q:qO) (c5:Nat) (ts:List TB),m<=n/\i=qI m/\x=qI (Ra (aF ms) m)/\Lst w wr s c k d #[qS X m c0,qI 0,qS (qP$ w.heap.size+3) 0 0,qI$ Fl (aF ms) m,qI 0,qS Q m c5]/\Lrw w wr (aF ms) m X c0 xs Q c5 ts) (λ_ i _=>n-(intOf i).toNat)
 .exact⟨0,_,_,[],_,_,[],xC _,rfl,rfl,HN.out.1,HN.out.2⟩
 .clear HN;obtain⟨m,X,c0,xs,Q,c5,ts,hm,rfl,rfl,S,R⟩:=hrel;generalize wr=p at *;by_cases bq:m<n
  .have da:(m:Int)<(n:Int):=J
   have H:=HH.out.bw S.be;obtain⟨b,el,rfl,q0,q1,q2,q3,q4,q5,q6,q7⟩:=H.s.at m bq;have ao:=H.d m bq;have a9:=a6.out m J;let⟨P,hP⟩:=aN$ (aF ms).getD m zP;have a4:P=(ms.getD m aL).pm:=hP.trans$ dB J;rw[<-hP]at a9;have rT:=iJ a9;have rD:=iL a9;have rF:=dE a6.out m J;have rR:=bL a6.out m J;let⟨_,_,vt,vb,vd,fo,fp,em⟩:=cR a9;have dn:=aR λk f=>cV a9 k f;have eT:(ms.getD m aL).tn=P.tz.length:=by rw[a4];exact ao.t.1.symm
   have eD:(ms.getD m aL).dn=P.dz.length:=by rw[a4];exact ao.d.1.symm
   have eS:(ms.getD m aL).bss=P.bss:=by rw[a4];rfl
   have eB:(ms.getD m aL).bn=P.bl.length:=by rw[a4];show _=(List.map _ _).length;rw[xH];exact ao.b.1.symm
   have dw:=aR (show ∀j,j<P.bl.length->((ms.getD m aL).bl.getD j zB).2.1=(P.bl.getD j []).length from λj C=>by rw[a4];exact(uV ao j J).1);have dx:=aR (xA ao (show aAc (aF ms) (ms.getD m aL).pm by have:=HI.out m J;rw[<-hP,a4]at this;exact this));have cw:=aR λ(W:qw)(hb:qY w W)=>(HH.out.bw hb).d m bq;have cq:gX (ms.getD m aL).pm=0:=by rw[<-a4];exact a9
   have d9:=aR cq;have aw:=aR hP;have de:=aR a4;generalize ms.getD m aL=M at *;rw[eT]at q1;rw[eB]at q2;rw[eD]at q3;rw[eS]at q4;have HE:=aR$ xA eT$ xA eD$ xA eS eB;have al:qY p (p.alloc$ .cells (qM M.nm M.ta P.tz.length M.tc M.ba P.bl.length M.bc M.da P.dz.length M.dc P.bss M.ra M.rn M.rc M.ia M.im M.ic M.ea M.en M.ec) 128):=brf.alloc aO _;have K:=Blk.new p (qM M.nm M.ta P.tz.length M.tc M.ba P.bl.length M.bc M.da P.dz.length M.dc P.bss M.ra M.rn M.rc M.ia M.im M.ic M.ea M.en M.ec) 128;have S1:=S.bw al;have V:Turn (Lg w) p (p.alloc$ .cells (qM M.nm M.ta P.tz.length M.tc M.ba P.bl.length M.bc M.da P.dz.length M.dc P.bss M.ra M.rn M.rc M.ia M.im M.ic M.ea M.en M.ec) 128):=aI al;have f9:=S.sz;have bd:=aR$ xA S R;clear H ao hP a4 cq eT eD eS eB al S R a9;have p3:=S1.k5.e3;obtain⟨g0,g1,g2,g3,g4,g5,g6,g7⟩:=K.eight;have bp:=aR$ xA S1$ xA K V;clear S1 K V;have f2:IntKind.i64.wrap ((P.dz.length:Int)+P.bss)=(P.dz.length:Int)+P.bss:=bN _ J J;have di:IntKind.i64.wrap (65536+Ra (aF ms) m)=65536+Ra (aF ms) m:=bN _ J J;go_wp2_with fail
   generalize d2:p.alloc (.cells (qM M.nm M.ta P.tz.length M.tc M.ba P.bl.length M.bc M.da P.dz.length M.dc P.bss M.ra M.rn M.rc M.ia M.im M.ic M.ea M.en M.ec) 128)=I at *;have cy:=aR (show I.heap.size=p.heap.size+1 by rw[<-d2];simp);clear d2 q0 q1 q2 q3 q4 q5 q6 q7;apply aV4 (F:=λ(gp gr:Nat)(W:qw)=>(Lst w W s c k d #[qS X m c0,qI 0,qS (some$ qR (w.heap.size+3) 0) 0 0,qI$ Fl (aF ms) m,qI 0,qS Q m c5]/\Blk W p.heap.size (qM M.nm M.ta P.tz.length M.tc M.ba P.bl.length M.bc M.da P.dz.length M.dc P.bss M.ra M.rn M.rc M.ia M.im M.ic M.ea M.en M.ec) 128/\Turn (Lg w) p W/\Blk W gp #[qI$ Fl (aF ms) m,qS (qP gr) 0 0,qI$ 65536+Ra (aF ms) m,qI$ rnd$ (P.dz.length:Int)+P.bss] 170/\OG 3 1 clI W (p.heap.size+1) (qS (qP gr) 0 0) []/\p.heap.size+1<=gp))
   .intro E;have Y:=aR E;clear E
    have bn:=aR (show(λ(gp gr:Nat)(W:qw)=>(Lst w W s c k d #[qS X m c0,qI 0,qS (some$ qR (w.heap.size+3) 0) 0 0,qI$ Fl (aF ms) m,qI 0,qS Q m c5]/\Blk W p.heap.size (qM M.nm M.ta P.tz.length M.tc M.ba P.bl.length M.bc M.da P.dz.length M.dc P.bss M.ra M.rn M.rc M.ia M.im M.ic M.ea M.en M.ec) 128/\Turn (Lg w) p W/\Blk W gp #[qI$ Fl (aF ms) m,qS (qP gr) 0 0,qI$ 65536+Ra (aF ms) m,qI$ rnd$ (P.dz.length:Int)+P.bss] 170/\OG 3 1 clI W (p.heap.size+1) (qS (qP gr) 0 0) []/\p.heap.size+1<=gp)) (I.heap.size+1) I.heap.size (((I.alloc$ .cells #[] 3).alloc$ .cells #[qI$ Fl (aF ms) m,qS (qP I.heap.size) 0 0,qI$ 65536+Ra (aF ms) m,qI$ rnd$ (P.dz.length:Int)+P.bss] 170).drew)by
     obtain⟨S1,K,V⟩:=bp.out;have dk:=cy.out;have bh:qY I (I.alloc$ .cells #[] 3):=brf.alloc aO _;have o1:=cC 3 1 clI I (p.heap.size+1) J;have s1:(I.alloc$ .cells #[] 3).heap.size=I.heap.size+1:=Jb
     generalize I.alloc (.cells #[] 3)=V2 at *;have b2:qY V2 ((V2.alloc$ .cells #[qI$ Fl (aF ms) m,qS (qP I.heap.size) 0 0,qI$ 65536+Ra (aF ms) m,qI$ rnd$ (P.dz.length:Int)+P.bss] 170).drew):=(brf.alloc aO _).drew;have k2:=Blk.new V2 #[qI$ Fl (aF ms) m,qS (qP I.heap.size) 0 0,qI$ 65536+Ra (aF ms) m,qI$ rnd$ (P.dz.length:Int)+P.bss] 170;rw[s1]at k2;have aa:=bh.trans$ b2.mono J
     exact⟨S1.bw aa,K.bw aa,V.trans$ aI aa,k2,o1.bw b2,J⟩)
    have dr:=aR (show(λ(gp gr:Nat)(W:qw)=>(Lst w W s c k d #[qS X m c0,qI 0,qS (some$ qR (w.heap.size+3) 0) 0 0,qI$ Fl (aF ms) m,qI 0,qS Q m c5]/\Blk W p.heap.size (qM M.nm M.ta P.tz.length M.tc M.ba P.bl.length M.bc M.da P.dz.length M.dc P.bss M.ra M.rn M.rc M.ia M.im M.ic M.ea M.en M.ec) 128/\Turn (Lg w) p W/\Blk W gp #[qI$ Fl (aF ms) m,qS (qP gr) 0 0,qI$ 65536+Ra (aF ms) m,qI$ rnd$ (P.dz.length:Int)+P.bss] 170/\OG 3 1 clI W (p.heap.size+1) (qS (qP gr) 0 0) []/\p.heap.size+1<=gp)) I.heap.size (I.heap.size+1) (((I.alloc$ .cells #[qI$ Fl (aF ms) m,qS (some$ qR (I.heap.size+1) 0) 0 0,qI$ 65536+Ra (aF ms) m,qI$ rnd$ (P.dz.length:Int)+P.bss] 170).alloc$ .cells #[] 3).drew)by
     obtain⟨S1,K,V⟩:=bp.out;have dk:=cy.out;have bh:qY I (I.alloc$ .cells #[qI$ Fl (aF ms) m,qS (some$ qR (I.heap.size+1) 0) 0 0,qI$ 65536+Ra (aF ms) m,qI$ rnd$ (P.dz.length:Int)+P.bss] 170):=brf.alloc aO _;have k2:=Blk.new I #[qI$ Fl (aF ms) m,qS (some$ qR (I.heap.size+1) 0) 0 0,qI$ 65536+Ra (aF ms) m,qI$ rnd$ (P.dz.length:Int)+P.bss] 170;have s1:(I.alloc$ .cells #[qI$ Fl (aF ms) m,qS (some$ qR (I.heap.size+1) 0) 0 0,qI$ 65536+Ra (aF ms) m,qI$ rnd$ (P.dz.length:Int)+P.bss] 170).heap.size=I.heap.size+1:=Jb
     generalize I.alloc (.cells #[qI$ Fl (aF ms) m,qS (some$ qR (I.heap.size+1) 0) 0 0,qI$ 65536+Ra (aF ms) m,qI$ rnd$ (P.dz.length:Int)+P.bss] 170)=V2 at *;have b2:qY V2 ((V2.alloc$ .cells #[] 3).drew):=(brf.alloc aO _).drew;have o1:=cC 3 1 clI V2 (p.heap.size+1) J;rw[s1]at o1;have aa:=bh.trans$ b2.mono J;have dc:OG 3 1 clI ((qm V2 #[] 3).drew) (p.heap.size+1) (qS (qP$ I.heap.size+1) 0 0) []:=o1.bw$ (brf).drew
     exact⟨S1.bw aa,K.bw aa,V.trans$ aI aa,k2.bw b2,dc,J⟩)
    go_region_held3 (λw'=>qN w' (w.heap.size+5) 3=qj (Fl (aF ms) m)/\qn w' p 3=qk M.da P.dz.length M.dc/\qn w' p 4=qj P.bss) (go_keep) (first
     | (go_at_call 124;refine(eQ _ _ J J).mono ?_;rintro e wz ⟨rfl,rfl⟩))
    .have b7:=bn;clear bn;generalize (((I.alloc$ .cells #[] 3).alloc$ .cells #[qI$ Fl (aF ms) m,qS (qp I) 0 0,qI$ 65536+Ra (aF ms) m,qI$ rnd$ (P.dz.length:Int)+P.bss] 170).drew)=W' at b7⊢;generalize I.heap.size+1=gp at b7⊢;generalize I.heap.size=gr at b7⊢;exact Y.out gp gr W' b7.out
    all_goals first|exact Y.out _ _ _ bn.out|exact Y.out _ _ _ dr.out
   .clear bp p3 g0 g1 g2 g3 g4 g5 g6 g7;rintro gp gr W' ⟨S1,K,V,kp,O,f7⟩;show Exit.then _ _ _ _ _
    have p3:=S1.k5.e3;have f3:=S1.k5.frozen 3;have g1:=K.e1;have dp:IntKind.i64.wrap (4*(P.tz.length:Int))=4*(P.tz.length:Int):=bN _ J J;have fg:0<=rnd (4*(P.tz.length:Int))/\rnd (4*(P.tz.length:Int))<=831:=rT;have fb:IntKind.i64.wrap (Fl (aF ms) m+rnd (4*(P.tz.length:Int)))=Fl (aF ms) m+rnd (4*(P.tz.length:Int)):=bN _ J J;have HQ:=aR$ xA S1$ xA K$ xA V$ xA kp O;clear S1 K V kp O;go_wp2;apply aV5
    .intro E;have Y:=aR E;clear E
     go_region_law (first
      | (go_simp;go_at_call 124;refine(eQ _ _ J J).mono ?_;rintro e wz ⟨rfl,rfl⟩))
     all_goals exact Y.out
    .have⟨S1,K,V,kp,O⟩:=HQ.out;have t8:=aC W' (w.heap.size+5) 3$ qI$ Fl (aF ms) m+rnd (4*(P.tz.length:Int));have ax:=pO t8;have S2:Lst w ((W'.setCell (qR (w.heap.size+5) 3)$ qI$ Fl (aF ms) m+rnd (4*(P.tz.length:Int))).drew) s c k d #[qS X m c0,qI 0,qS (qP$ w.heap.size+3) 0 0,qI$ Fl (aF ms) m+rnd (4*(P.tz.length:Int)),qI 0,qS Q m c5]:=(S1.set 3$ qI$ Fl (aF ms) m+rnd (4*(P.tz.length:Int))).drew;have d3:Blk ((W'.setCell (qR (w.heap.size+5) 3)$ qI$ Fl (aF ms) m+rnd (4*(P.tz.length:Int))).drew) p.heap.size (qM M.nm M.ta P.tz.length M.tc M.ba P.bl.length M.bc M.da P.dz.length M.dc P.bss M.ra M.rn M.rc M.ia M.im M.ic M.ea M.en M.ec) 128:=aD ax K (λe=>by have l:p.heap.size=w.heap.size+5:=e;omega);have ct:Turn (Lg w) p ((W'.setCell (qR (w.heap.size+5) 3)$ qI$ Fl (aF ms) m+rnd (4*(P.tz.length:Int))).drew):=V.trans$ ax.mono λj C=>C;have cd:Blk ((W'.setCell (qR (w.heap.size+5) 3)$ qI$ Fl (aF ms) m+rnd (4*(P.tz.length:Int))).drew) gp #[qI$ Fl (aF ms) m,qS (qP gr) 0 0,qI$ 65536+Ra (aF ms) m,qI$ rnd$ (P.dz.length:Int)+P.bss] 170:=aD ax kp (λe=>by have l:gp=w.heap.size+5:=e;omega);have O2:OG 3 1 clI ((W'.setCell (qR (w.heap.size+5) 3)$ qI$ Fl (aF ms) m+rnd (4*(P.tz.length:Int))).drew) (p.heap.size+1) (qS (qP gr) 0 0) []:=O.kept ax (λk f e=>by have:=(O.lt k f).1;have l:k=w.heap.size+5:=e;omega);have e0:(Fl (aF ms) m+rnd (4*(P.tz.length:Int)))=(Fl (aF ms) m+rnd (4*(P.tz.length:Int))+cU P 0):=by simp[cU]
     have du:=aR e0;have am:=aR$ xA S2$ xA d3$ xA ct$ xA cd O2;clear S1 K V kp O S2 d3 ct cd O2 t8 ax HQ p3 f3 g1 e0;let⟨iI,bz,c3,c6,c7⟩:=info_parts nC;go_wp2;go_loopw [10] (λi wx=>∃(q:Nat) (ar:qO) (cr:Nat),q<=P.bl.length/\i=qI q/\Lst w wx s c k d #[qS X m c0,qI 0,qS (qP$ w.heap.size+3) 0 0,qI$ Fl (aF ms) m+rnd (4*(P.tz.length:Int))+cU P q,qI 0,qS Q m c5]/\Blk wx p.heap.size (qM M.nm M.ta P.tz.length M.tc M.ba P.bl.length M.bc M.da P.dz.length M.dc P.bss M.ra M.rn M.rc M.ia M.im M.ic M.ea M.en M.ec) 128/\Turn (Lg w) p wx/\Blk wx gp #[qI$ Fl (aF ms) m,qS ar q cr,qI$ 65536+Ra (aF ms) m,qI$ rnd$ (P.dz.length:Int)+P.bss] 170/\OG 3 1 clI wx (p.heap.size+1) (qS ar q cr) (bks (aF ms) m q)) (qf P.bl.length)
     .exact⟨0,qP gr,0,xC _,rfl,(du.out ▸ am.out.1),am.out.2.1,am.out.2.2.1,am.out.2.2.2.1,am.out.2.2.2.2⟩
     .clear am;obtain⟨q,ar,cr,hq,rfl,S2,K,V,kp,O⟩:=hrel;have g2:=K.e2;by_cases b1:q<P.bl.length
      .have bg:(q:Int)<(P.bl.length:Int):=J
       let⟨FQ,be⟩:=aN$ (Fl (aF ms) m+rnd (4*(P.tz.length:Int))+cU P q);rw[<-be]at S2;have rq:=dn.out q J;have f0:0<=FQ/\FQ<=20000:=J
       have p3:=S2.k5.e3;have p1:=kp.e1;have al:qY wr (qm wr #[qI FQ] 3):=brf.alloc aO _;have df:=V.size;have bl:=aR (show bks (aF ms) m (q+1)=bks (aF ms) m q++[FQ] by rw[aP8,<-aw.out,be];rfl);have a3:=aR (show(qm wr #[qI FQ] 3).ownsRow (p.heap.size+1) 3 1 (qS ar q cr) q ((bks (aF ms) m q).flatMap clI)by have:=O.bw al;unfold OG at this;rw[rU]at this;exact this);have HQ:=aR$ xA (S2.bw al)$ xA (K.bw al)$ xA (V.trans$ aI al)$ xA (kp.bw al)$ O.bw al;have ec:=aR be;clear S2 K V kp O al be;go_wp2_with (at_builtin;refine wpList_append_own _ rfl _ _ 25 rfl (p.heap.size+1) 3 iI (qI 0) 1 8 underlying25 bz c3 c6 c7 rfl Ja (qS ar q cr) q ((bks (aF ms) m q).flatMap clI) rfl a3.out (qh wr 0) 1 1 (clI FQ) rfl rfl (cA wr _ _ (clI FQ) rfl) (by intro u hu;simp[clI]at hu;subst hu;rfl) Jf J Jc ?_;intro v' w4 D t _;obtain⟨S2,K,V,kp,O⟩:=HQ.out;have y:∀j,(qS ar q cr).ownBlock=some j->p.heap.size+1<=j:=(λj C=>(O.lt j C).1);have O4:OG 3 1 clI w4 (p.heap.size+1) v' (bks (aF ms) m$ q+1):=(by unfold OG;rw[rU,bl.out,xU,xX];exact D);have G:=S2.grown t λj C=>jK$ y j C;have B:=dD K t λe=>jK$ y _ e.symm;have av:=vH V t λj C=>jK$ y j C;have a7:=dD kp t (λe=>by obtain⟨er,f⟩:=aE O e.symm;exact absurd (aH kp f) Ja);obtain⟨ad,af,rfl⟩:=aZ O4;rw[rU]at O4⊢;have c1:qN w4 gp 1=qk ar q cr:=a7.cell 1;have f1:=a7.frozen 1;have H4:=aR$ xA G$ xA B$ xA av$ xA a7 O4;clear S2 K V kp O y G B av a7 O4 D t a3 HQ p1 p3 g2)
       let⟨G,B,av,a7,O4⟩:=H4.out;have tp:=aC w4 gp 1$ qS ad (q+1) af;have S5:=G.other (g:=gp) J 1$ qS ad (q+1) af;have aj:=aD tp B (λe=>by have l:p.heap.size=gp:=e;omega);have au:=kP av (show p.heap.size<=gp from J) 1$ qS ad (q+1) af;have az:=a7.s1$ qS ad (q+1) af;have O5:=O4.kept tp (λk f e=>by have l:k=gp:=e;subst l;exact aQ O4 f a7 Ja);have d0:=cw.out _ S5.be;let⟨_,_,d7,_,_⟩:=d0.b;let⟨b2,fn,d6,hc⟩:=d7 (by rw[HE.out.2.2.2];omega);have cb:=hc q$ HE.out.2.2.2 ▸ b1;rw[dw.out q b1]at cb;have g2:=aj.e2;rw[d6]at g2;have p3:=S5.k5.e3;have f3:=S5.k5.frozen 3;have dz:=em q b1;let⟨LQ,bu⟩:=aN$ (P.bl.getD q []).length;rw[<-bu]at cb dz;have rL:=bC (x:=4*(LQ:Int)) J;have dp:IntKind.i64.wrap (4*(LQ:Int))=4*(LQ:Int):=bN _ J J;have dv:IntKind.i64.wrap (FQ+rnd (4*(LQ:Int)))=(FQ+rnd (4*(LQ:Int))):=bN _ J J;have dd:=aR (show(FQ+rnd (4*(LQ:Int)))=Fl (aF ms) m+rnd (4*(P.tz.length:Int))+cU P (q+1)by rw[ec.out,bu];show _=Fl (aF ms) m+rnd (4*(P.tz.length:Int))+(cU P q+rnd (4*((P.bl.getD q []).length:Int)));omega);generalize M.bl.getD q zB=d8 at cb;obtain⟨en,eo,ep,eq⟩:=d8;dsimp only at cb;have H5:=aR$ xA S5$ xA aj$ xA au$ xA az O5;clear G B av a7 O4 tp S5 aj au az O5 d0 d7 d6 hc bu H4 c1 f1;apply aV5
       .intro E;have Y:=aR E;clear E
        go_region_law (first
         | (go_simp;go_at_call 124;refine(eQ _ _ J J).mono ?_;rintro e wz ⟨rfl,rfl⟩))
        all_goals exact Y.out
       .have⟨S5,aj,au,az,O5⟩:=H5.out;have t6:=pO$ aC (w4.setCell (qR gp 1)$ qS ad (q+1) af) (w.heap.size+5) 3$ qI$ FQ+rnd (4*(LQ:Int));have S6:Lst w (((w4.setCell (qR gp 1)$ qS ad (q+1) af).setCell (qR (w.heap.size+5) 3)$ qI$ FQ+rnd (4*(LQ:Int))).drew) s c k d #[qS X m c0,qI 0,qS (qP$ w.heap.size+3) 0 0,qI$ FQ+rnd (4*(LQ:Int)),qI 0,qS Q m c5]:=(S5.set 3$ qI$ FQ+rnd (4*(LQ:Int))).drew;have b4:=aD t6 aj (λe=>by have l:p.heap.size=w.heap.size+5:=e;omega);have co:=au.trans$ t6.mono (S':=Lg w) λj C=>C;have d1:=aD t6 az (λe=>by have l:gp=w.heap.size+5:=e;omega);have O6:=O5.kept t6 (λk f e=>by have:=(O5.lt k f).1;have l:k=w.heap.size+5:=e;omega);have H6:=aR$ xA S6$ xA b4$ xA co$ xA d1 O6;clear S5 aj au az O5 t6 S6 b4 co d1 O6 H5 p3 f3 g2 cb;go_wp2
        go_roundw
        .exact⟨q+1,ad,af,J,by go_num,(dd.out ▸ H6.out.1),H6.out.2.1,H6.out.2.2.1,H6.out.2.2.2.1,H6.out.2.2.2.2⟩
        .simp[qf,intOf];omega
      .have bg:¬(q:Int)<(P.bl.length:Int):=J
       have bm:q=P.bl.length:=J
       have eF:Fl (aF ms) m+rnd (4*(P.tz.length:Int))+cU P q=(Fl (aF ms)$ m+1):=by
        show _=Fl (aF ms) m+msz ((aF ms).getD m zP);rw[<-aw.out,bm];show _=Fl (aF ms) m+(rnd (4*(P.tz.length:Int))+cU P P.bl.length);omega
       rw[eF]at S2;have f5:=dE a6.out (m+1) J;have ey:=bL a6.out (m+1) J
       have eR:Ra (aF ms) m+rnd ((P.dz.length:Int)+P.bss)=Ra (aF ms) (m+1):=by
        show _=Ra (aF ms) m+dsz ((aF ms).getD m zP);rw[<-aw.out];rfl
       have ex:IntKind.i64.wrap (Ra (aF ms) m+rnd ((P.dz.length:Int)+P.bss))=Ra (aF ms) (m+1):=by rw[eR];exact bN _ J J
       have ds:=aR (show plc (aF ms) m=⟨Fl (aF ms) m,bks (aF ms) m q,65536+Ra (aF ms) m,rnd$ (P.dz.length:Int)+P.bss⟩by unfold plc bks;rw[<-aw.out,bm];rfl);have U:=bd.out.2.kept bd.out.1 V;have L1:=U.P.lt;have df:=V.size;let⟨iP,ed,ef,eg,eh⟩:=info_parts aTe;let⟨iT,ee,ei,ej,ek⟩:=info_parts aPg;let⟨r0,r1,r2,r3⟩:=kp.z4;have p0:=S2.k5.e0;have al:qY wr (qm wr #[qI$ Fl (aF ms) m,qS ar q cr,qI$ 65536+Ra (aF ms) m,qI$ rnd$ (P.dz.length:Int)+P.bss] 170):=brf.alloc aO _;have a3:=aR (show(qm wr #[qI$ Fl (aF ms) m,qS ar q cr,qI$ 65536+Ra (aF ms) m,qI$ rnd$ (P.dz.length:Int)+P.bss] 170).ownsRow (w.heap.size+2) 170 4 (qS X m c0) m (xs.flatMap clP)by have:=U.P.head.bw al;unfold OG at this;rw[U.pl]at this;exact this);have dg:=aR (show clP ((⟨Fl (aF ms) m,bks (aF ms) m q,65536+Ra (aF ms) m,rnd$ (P.dz.length:Int)+P.bss⟩,ar,cr):PB)=[qI$ Fl (aF ms) m,qS ar q cr,qI$ 65536+Ra (aF ms) m,qI$ rnd$ (P.dz.length:Int)+P.bss] by simp[clP,svP,rU]);have bo:=aR (show ∀A∈xs,∀j,(svP A).ownBlock=some j->j<p.heap.size+1 from λA hA j C=>jK$ (bd.out.2.P.lt.2 A hA j C).2);have HQ:=aR$ xA (S2.bw al)$ xA (K.bw al)$ xA (V.trans$ aI al)$ xA (U.bw al)$ O.bw al;clear S2 K V kp O al U L1 eF bm eR;go_wp2_with (at_builtin;refine wpList_append_own _ rfl _ _ 62 rfl (w.heap.size+2) 170 iP (.agg #[qI 0,qS none 0 0,qI 0,qI 0]) 4 48 underlying62 ed ef eg eh rfl Ja (qS X m c0) m (xs.flatMap clP) rfl a3.out (qh wr 0) 1 1 [qI$ Fl (aF ms) m,qS ar q cr,qI$ 65536+Ra (aF ms) m,qI$ rnd$ (P.dz.length:Int)+P.bss] rfl rfl (cA wr _ _ [qI$ Fl (aF ms) m,qS ar q cr,qI$ 65536+Ra (aF ms) m,qI$ rnd$ (P.dz.length:Int)+P.bss] rfl) (by intro u hu;simp at hu;rcases hu with rfl|rfl|rfl|rfl<;>rfl) Jf J Jc ?_;intro v' w4 D t _;obtain⟨S2,K,V,U,O⟩:=HQ.out;have y:∀j,(qS X m c0).ownBlock=some j->w.heap.size+2<=j/\j≠w.heap.size+5/\j≠p.heap.size/\j<p.heap.size:=(λj C=>⟨(U.P.lt.1 j C).1,λe=>by subst e;exact aQ U.P.head C S2.k5 Ja,λe=>by subst e;exact aQ U.P.head C K Ja,(bd.out.2.P.lt.1 j C).2⟩);have P4:=U.P.push (x:=((⟨Fl (aF ms) m,bks (aF ms) m q,65536+Ra (aF ms) m,rnd$ (P.dz.length:Int)+P.bss⟩,ar,cr):PB)) U.pl (by show OG _ _ _ _ _ (.slice ar (bks (aF ms) m q).length cr) _;rw[rU];exact O) J bo.out (dg.out ▸ D) t Ja;have G:=S2.grown t λj C=>⟨(y j C).1,(y j C).2.1⟩;have B:=dD K t λe=>(y _ e.symm).2.2.1 rfl;have T4:OTg w4 (w.heap.size+2) (w.heap.size+6) (qS Q m c5) ts:=⟨U.T.head.kept' t (λk f e=>by obtain⟨c1,k1⟩:=aE U.P.head e;exact aQ U.T.head f k1 Ja),λx hx=>(U.T.rows x hx).kept' t (λk f e=>by obtain⟨c1,k1⟩:=aE U.P.head e;exact aQ (U.T.rows x hx) f k1 Ja),U.T.apart⟩;have ai:=U.S.kept' t (λk f e=>by obtain⟨c1,k1⟩:=aE U.P.head e;exact aQ U.S f k1 Ja);obtain⟨a0,a1,rfl⟩:=aZ P4.head;rw[show(xs++[((⟨Fl (aF ms) m,bks (aF ms) m q,65536+Ra (aF ms) m,rnd$ (P.dz.length:Int)+P.bss⟩,ar,cr):PB)]).length=m+1 by rw[xI,U.pl];rfl]at P4⊢;have a5:=aD (aC w4 (w.heap.size+5) 0$ qS a0 (m+1) a1) B (λe=>by have l:p.heap.size=w.heap.size+5:=e;omega);have g0:(w4.setCell (qR (w.heap.size+1+1+1+1+1) 0)$ qS a0 (m+1) a1).cell? (qh p 0)=some (.string M.nm):=a5.cell 0;have y0:qn w4 p 0=some (.string M.nm):=B.cell 0;have g1:(w4.setCell (qR (w.heap.size+1+1+1+1+1) 0)$ qS a0 (m+1) a1).cell? (qh p 1)=qk M.ta P.tz.length M.tc:=a5.cell 1;have y1:qn w4 p 1=qk M.ta P.tz.length M.tc:=B.cell 1;have g2:(w4.setCell (qR (w.heap.size+1+1+1+1+1) 0)$ qS a0 (m+1) a1).cell? (qh p 2)=qk M.ba P.bl.length M.bc:=a5.cell 2;have y2:qn w4 p 2=qk M.ba P.bl.length M.bc:=B.cell 2;have g3:(w4.setCell (qR (w.heap.size+1+1+1+1+1) 0)$ qS a0 (m+1) a1).cell? (qh p 3)=qk M.da P.dz.length M.dc:=a5.cell 3;have y3:qn w4 p 3=qk M.da P.dz.length M.dc:=B.cell 3;have g4:(w4.setCell (qR (w.heap.size+1+1+1+1+1) 0)$ qS a0 (m+1) a1).cell? (qh p 4)=qj P.bss:=a5.cell 4;have y4:qn w4 p 4=qj P.bss:=B.cell 4;have g5:(w4.setCell (qR (w.heap.size+1+1+1+1+1) 0)$ qS a0 (m+1) a1).cell? (qh p 5)=qk M.ra M.rn M.rc:=a5.cell 5;have y5:qn w4 p 5=qk M.ra M.rn M.rc:=B.cell 5;have g6:(w4.setCell (qR (w.heap.size+1+1+1+1+1) 0)$ qS a0 (m+1) a1).cell? (qh p 6)=qk M.ia M.im M.ic:=a5.cell 6;have y6:qn w4 p 6=qk M.ia M.im M.ic:=B.cell 6;have g7:(w4.setCell (qR (w.heap.size+1+1+1+1+1) 0)$ qS a0 (m+1) a1).cell? (qh p 7)=qk M.ea M.en M.ec:=a5.cell 7;have y7:qn w4 p 7=qk M.ea M.en M.ec:=B.cell 7;have ff:¬p.heap.size=w.heap.size+1+1+1+1+1:=J;have fe:¬w.heap.size+1+1+1+1+1=p.heap.size:=J;clear a5;have p4:qN w4 (w.heap.size+5) 0=qk X m c0:=G.k5.cell 0;have f4:=G.k5.frozen 0;have H4:=aR$ xA G$ xA B$ xA P4$ xA T4 ai;have Z:=aR$ xA U.pl$ xA U.tl$ xA U.px U.tx;clear S2 K V U O y G B P4 T4 ai D t a3 HQ p0 r0 r1 r2 r3)
       let⟨G,B,P4,T4,ai⟩:=H4.out;have t6:Turn (λj=>j=w.heap.size+5) w4 (w4.setCell (qR (w.heap.size+1+1+1+1+1) 0)$ qS a0 (m+1) a1):=aC w4 (w.heap.size+5) 0$ qS a0 (m+1) a1;have S6:Lst w (w4.setCell (qR (w.heap.size+1+1+1+1+1) 0)$ qS a0 (m+1) a1) s c k d #[qS a0 (m+1) a1,qI 0,qS (qP$ w.heap.size+3) 0 0,qI$ Fl (aF ms)$ m+1,qI 0,qS Q m c5]:=G.set 0$ qS a0 (m+1) a1;have b4:=aD t6 B (λe=>by have l:p.heap.size=w.heap.size+5:=e;omega);have P6:=P4.kept t6 (λk f e=>by have l:k=w.heap.size+5:=e;subst l;exact aQ P4.head f G.k5 Ja) (λx hx k f e=>by have l:k=w.heap.size+5:=e;subst l;exact aQ (P4.rows x hx) f G.k5 Ja);have T6:=T4.kept t6 (λk f e=>by have l:k=w.heap.size+5:=e;subst l;exact aQ T4.head f G.k5 Ja) (λx hx k f e=>by have l:k=w.heap.size+5:=e;subst l;exact aQ (T4.rows x hx) f G.k5 Ja);have b0:=ai.kept t6 (λk f e=>by have l:k=w.heap.size+5:=e;subst l;exact aQ ai f G.k5 Ja);generalize w4.setCell (qR (w.heap.size+1+1+1+1+1) 0) (qS a0 (m+1) a1)=W6 at *;have bk:=aR$ oP (qe b el) n br ms M W6 (HH.out.bw S6.be) a6.out hn (cw.out _ S6.be) d9.out;rw[HE.out.1,HE.out.2.1,HE.out.2.2.1,HE.out.2.2.2]at bk;have dt:=aR (show ∀A∈ts,∀j,(svT A).ownBlock=some j->j<W6.heap.size from λA hA j C=>(T6.lt.2 A hA j C).2);have ea:=S6.sz;have H6:=aR$ xA S6$ xA P6$ xA T6 b0;clear G B P4 T4 ai t6 S6 b4 P6 T6 b0 H4 p4 f4;apply bk.out.mono;rintro e w7 ⟨ak,H7⟩;rcases H7 with⟨dl,_⟩|⟨_,ab,ac,rfl,O7⟩
       .exact absurd dx.out.2 dl
       let⟨S6,P6,T6,b0⟩:=H6.out;have al:qY w7 (qm w7 #[.slice ab (tgs (aF ms) M.pm).length ac] 164):=brf.alloc aO _;have S7:=S6.bw ak;have T7:=T6.bw ak;have eu:=ak.size;have p5:=S7.k5.e5;have a3:=aR (show(qm w7 #[.slice ab (tgs (aF ms) M.pm).length ac] 164).ownsRow (w.heap.size+2) 164 1 (qS Q m c5) m (ts.flatMap aEk)by have:=T7.head.bw al;unfold OG at this;rw[Z.out.2.1]at this;exact this);have HQ:=aR$ xA (S7.bw al)$ xA ((P6.bw ak).bw al)$ xA (T7.bw al)$ xA ((b0.bw ak).bw al)$ O7.bw al;clear S6 P6 T6 b0 ak O7 al S7 T7 H6 bk g0 g1 g2 g3 g4 g5 g6 g7 y0 y1 y2 y3 y4 y5 y6 y7;go_wp2_with (at_builtin;refine wpList_append_own _ rfl _ _ 63 rfl (w.heap.size+2) 164 iT (qS none 0 0) 1 24 underlying63 ee ei ej ek rfl Ja (qS Q m c5) m (ts.flatMap aEk) rfl a3.out (qh w7 0) 1 1 (aEk ((tgs (aF ms) M.pm,ab,ac):TB)) rfl rfl (cA w7 _ _ (aEk ((tgs (aF ms) M.pm,ab,ac):TB)) rfl) (by intro u hu;simp[aEk,svT]at hu;subst hu;rfl) Jf J Jc ?_;intro v' w8 D t _;obtain⟨S7,P7,T7,bf,O7⟩:=HQ.out;have y:∀j,(qS Q m c5).ownBlock=some j->w.heap.size+2<=j/\j≠w.heap.size+5:=(λj C=>⟨(T7.lt.1 j C).1,λe=>by subst e;exact aQ T7.head C S7.k5 Ja⟩);have T8:=T7.push (x:=((tgs (aF ms) M.pm,ab,ac):TB)) Z.out.2.1 O7 (by exact ea) dt.out D t Ja;have S8:=S7.grown t y;have P8:OPl w8 (w.heap.size+2) (w.heap.size+6) (qS a0 (m+1) a1) (xs++[((⟨Fl (aF ms) m,bks (aF ms) m q,65536+Ra (aF ms) m,rnd$ (P.dz.length:Int)+P.bss⟩,ar,cr):PB)]):=⟨P7.head.kept' t (λk f e=>by obtain⟨c1,k1⟩:=aE T7.head e;exact aQ P7.head f k1 Ja),λx hx=>(P7.rows x hx).kept' t (λk f e=>by obtain⟨c1,k1⟩:=aE T7.head e;exact aQ (P7.rows x hx) f k1 Ja),P7.apart⟩;have an:=bf.kept' t (λk f e=>by obtain⟨c1,k1⟩:=aE T7.head e;exact aQ bf f k1 Ja);obtain⟨a8,ae,rfl⟩:=aZ T8.head;rw[show(ts++[((tgs (aF ms) M.pm,ab,ac):TB)]).length=m+1 by rw[xI,Z.out.2.1];rfl]at T8⊢;have p8:qN w8 (w.heap.size+5) 5=qk Q m c5:=S8.k5.cell 5;have f8:=S8.k5.frozen 5;have H8:=aR$ xA S8$ xA P8$ xA T8 an;clear S7 P7 T7 bf O7 y T8 S8 P8 an D t a3 HQ p5)
       let⟨S8,P8,T8,an⟩:=H8.out;have t9:=aC w8 (w.heap.size+5) 5$ qS a8 (m+1) ae;have S9:Lst w (w8.setCell (qR (w.heap.size+5) 5)$ qS a8 (m+1) ae) s c k d #[qS a0 (m+1) a1,qI 0,qS (qP$ w.heap.size+3) 0 0,qI$ Fl (aF ms)$ m+1,qI 0,qS a8 (m+1) ae]:=S8.set 5$ qS a8 (m+1) ae;have P9:=P8.kept t9 (λk f e=>by have l:k=w.heap.size+5:=e;subst l;exact aQ P8.head f S8.k5 Ja) (λx hx k f e=>by have l:k=w.heap.size+5:=e;subst l;exact aQ (P8.rows x hx) f S8.k5 Ja);have T9:=T8.kept t9 (λk f e=>by have l:k=w.heap.size+5:=e;subst l;exact aQ T8.head f S8.k5 Ja) (λx hx k f e=>by have l:k=w.heap.size+5:=e;subst l;exact aQ (T8.rows x hx) f S8.k5 Ja);have ce:=an.kept t9 (λk f e=>by have l:k=w.heap.size+5:=e;subst l;exact aQ an f S8.k5 Ja);have R9:Lrw w (w8.setCell (qR (w.heap.size+5) 5)$ qS a8 (m+1) ae) (aF ms) (m+1) a0 a1 (xs++[((⟨Fl (aF ms) m,bks (aF ms) m q,65536+Ra (aF ms) m,rnd$ (P.dz.length:Int)+P.bss⟩,ar,cr):PB)]) a8 ae (ts++[((tgs (aF ms) M.pm,ab,ac):TB)]):=⟨P9,T9,ce,by rw[xI,Z.out.1];rfl,by rw[xI,Z.out.2.1];rfl,by rw[List.map_append,Z.out.2.2.1,List.range_succ,List.map_append];simp only[List.map_cons,List.map_nil];rw[ds.out],by rw[List.map_append,Z.out.2.2.2,List.range_succ,List.map_append];simp only[List.map_cons,List.map_nil];rw[<-aw.out,de.out]⟩;have H9:=aR$ xA S9 R9;clear S8 P8 T8 an t9 S9 P9 T9 ce R9 H8 p8 f8;go_wp2
       go_roundw
       .exact⟨m+1,a0,a1,_,a8,ae,_,J,by go_num,rfl,H9.out.1,H9.out.2⟩
       .simp[qf,intOf];omega
  .have da:¬(m:Int)<(n:Int):=J
   have dj:m=n:=J
   subst dj;have rF:=dE a6.out m J;have rR:=bL a6.out m J;obtain⟨sn,rfl⟩:∃sn:Nat,s=(sn:Int):=⟨s.toNat,J⟩;let⟨RW,bv⟩:=aN$ rnd$ 4*c;have fa:0<=RW/\RW<=287:=jK$ bC (x:=4*c) J;have ch:=aR bv;have cx:=aR λW=>eQ (4*c) W J J;rw[<-bv]at cx;have di:IntKind.i64.wrap (65536+Ra (aF ms) m)=(65536+Ra (aF ms) m):=bN _ J J;have fc:IntKind.i64.wrap (Ra (aF ms) m+k)=Ra (aF ms) m+k:=bN _ J J;have ez:IntKind.i64.wrap (4*c)=4*c:=bN _ J J;have bc:Turn (λj=>j=w.heap.size+5) p (p.setCell (qR (w.heap.size+1+1+1+1+1) 1)$ qI$ 65536+Ra (aF ms) m):=aC p (w.heap.size+5) 1$ qI$ 65536+Ra (aF ms) m;have bj:Lst w (p.setCell (qR (w.heap.size+1+1+1+1+1) 1)$ qI$ 65536+Ra (aF ms) m) sn c k d #[qS X m c0,qI$ 65536+Ra (aF ms) m,qS (qP$ w.heap.size+3) 0 0,qI$ Fl (aF ms) m,qI 0,qS Q m c5]:=S.set 1$ qI$ 65536+Ra (aF ms) m;have ck:=R.P.kept bc (λk f e=>by have l:k=w.heap.size+5:=e;subst l;exact aQ R.P.head f S.k5 Ja) (λx hx k f e=>by have l:k=w.heap.size+5:=e;subst l;exact aQ (R.P.rows x hx) f S.k5 Ja);have cg:=R.T.kept bc (λk f e=>by have l:k=w.heap.size+5:=e;subst l;exact aQ R.T.head f S.k5 Ja) (λx hx k f e=>by have l:k=w.heap.size+5:=e;subst l;exact aQ (R.T.rows x hx) f S.k5 Ja);have cl:=R.S.kept bc (λk f e=>by have l:k=w.heap.size+5:=e;subst l;exact aQ R.S f S.k5 Ja);have p1:=S.k5.e1;have f1:=S.k5.frozen 1;have y2:=bj.k0.e2;have x2:=S.k0.e2
   have ca:∀j,(qS (qP$ w.heap.size+3) 0 0).ownBlock=some j->∀x∈xs,(svP x).ownBlock≠some j:=λj C x hx e=>by
    have h1:=(R.P.lt.2 x hx j e).1;simp[Value.ownBlock]at C;omega
   have ag:=aR$ xA R.pl$ xA R.tl$ xA R.px R.tx;have ah:=aR$ xA bj$ xA cl$ xA ck$ xA cg ca;have HZ:=aR$ show Ra (aF ms) m+k=Ra (aF ms) m+k+((0:Nat):Int)*RW from Jb;let⟨iI,bz,c3,c6,c7⟩:=info_parts nC;clear bj ck cg cl ca S R bc bv;go_wp2;go_loopw [6,13] (λx i wx=>∃(q:Nat) (a2:qO) (c2:Nat) (rq:Int),q<=sn/\i=qI q/\x=qI rq/\Hid (rq=Ra (aF ms) m+k+(q:Int)*RW)/\Lst w wx sn c k d #[qS X m c0,qI$ 65536+Ra (aF ms) m,qS a2 q c2,qI$ Fl (aF ms) m,qI 0,qS Q m c5]/\OG 3 1 clI wx (w.heap.size+2) (qS a2 q c2) ((List.range q).map$ slt (aF ms) c k)/\OPl wx (w.heap.size+2) (w.heap.size+6) (qS X m c0) xs/\OTg wx (w.heap.size+2) (w.heap.size+6) (qS Q m c5) ts/\(∀j,(qS a2 q c2).ownBlock=some j->∀x∈xs,(svP x).ownBlock≠some j)) (λ_ i _=>sn-(intOf i).toNat)
   .exact⟨0,_,_,_,xC _,rfl,rfl,HZ,ah.out.1,ah.out.2.1,ah.out.2.2.1,ah.out.2.2.2.1,ah.out.2.2.2.2⟩
   .clear ah p1 f1 y2 x2 HZ;obtain⟨q,a2,c2,rq,hq,rfl,rfl,ap,S,O,P,T,SP⟩:=hrel
    have f6:0<=rq/\rq<=100000:=by
     have:=ap.out;have h1:(q:Int)*RW<=4*287:=Int.mul_le_mul J J J J;have h0:0<=(q:Int)*RW:=Int.mul_nonneg J J;omega
    have z0:=S.k0.e0;by_cases b1:q<sn
    .have bg:(q:Int)<(sn:Int):=J
     have p2:=S.k5.e2;have dv:IntKind.i64.wrap (65536+rq)=65536+rq:=bN _ J J;have ew:IntKind.i64.wrap (rq+RW)=rq+RW:=bN _ J J;have al:qY wr (qm wr #[qI$ 65536+rq] 3):=brf.alloc aO _;have db:=S.sz
     have bl:=aR (show(List.range$ q+1).map (slt (aF ms) c k)=(List.range q).map (slt (aF ms) c k)++[65536+rq] by
      rw[List.range_succ,List.map_append];simp only[List.map_cons,List.map_nil];congr 2;unfold slt;rw[cs,ap.out,ch.out]
      omega)
     have cj:=aR$ show((List.range q).map$ slt (aF ms) c k).length=q from Jb;have a3:=aR (show(qm wr #[qI$ 65536+rq] 3).ownsRow (w.heap.size+2) 3 1 (qS a2 q c2) q (((List.range q).map$ slt (aF ms) c k).flatMap clI)by have:=O.bw al;unfold OG at this;rw[cj.out]at this;exact this);have bo:=aR (show ∀x∈xs,∀j,(svP x).ownBlock=some j->j<wr.heap.size from λx hx j C=>(P.lt.2 x hx j C).2);have dy:=aR (show rq+RW=Ra (aF ms) m+k+((q+1:Nat):Int)*RW by rw[ap.out];push_cast;rw[Int.add_mul];omega);have d4:=aR SP;have HQ:=aR$ xA (S.bw al)$ xA (P.bw al)$ xA (T.bw al)$ O.bw al;clear S O P T SP al ap;go_wp2_with (at_builtin;refine wpList_append_lies _ rfl _ _ 25 rfl (w.heap.size+2) 3 iI (qI 0) 1 8 underlying25 bz c3 c6 c7 rfl Ja (qS a2 q c2) q (((List.range q).map$ slt (aF ms) c k).flatMap clI) rfl a3.out (qh wr 0) 1 1 (clI$ 65536+rq) rfl rfl (cA wr _ _ (clI$ 65536+rq) rfl) (by intro u hu;simp[clI]at hu;subst hu;rfl) Ja Jf J Jc (wr.heap.size+1) Jb ?_;intro g4 c4 w4 D t cc et;obtain⟨S,P,T,O⟩:=HQ.out;have y:∀j,(qS a2 q c2).ownBlock=some j->w.heap.size+2<=j/\j≠w.heap.size+5:=(λj C=>⟨(O.lt j C).1,λe=>by subst e;exact aQ O C S.k5 Ja⟩);have O4:OG 3 1 clI w4 (w.heap.size+2) (qS (qP g4) (q+1) c4) ((List.range$ q+1).map$ slt (aF ms) c k):=(by unfold OG;rw[bl.out,xI,cj.out,xU,xX];exact D);have G:=S.grown t y;have P4:OPl w4 (w.heap.size+2) (w.heap.size+6) (qS X m c0) xs:=⟨P.head.kept' t (λk f e=>by obtain⟨c1,k1⟩:=aE O e;exact aQ P.head f k1 Ja),λx hx=>(P.rows x hx).kept' t λk f e=>d4.out k e x hx f,P.apart⟩;have T4:OTg w4 (w.heap.size+2) (w.heap.size+6) (qS Q m c5) ts:=⟨T.head.kept' t (λk f e=>by obtain⟨c1,k1⟩:=aE O e;exact aQ T.head f k1 Ja),λx hx=>(T.rows x hx).kept' t (λk f e=>by obtain⟨c1,k1⟩:=aE O e;exact aQ (T.rows x hx) f k1 Ja),T.apart⟩;have ay:∀j,(qS (qP g4) (q+1) c4).ownBlock=some j->∀x∈xs,(svP x).ownBlock≠some j:=(λj C x hx e=>by have dh:g4=j:=(by simpa[Value.ownBlock]using C);subst dh;exact cc.elim (λh1=>d4.out g4 h1 x hx e) λh1=>jK$ bo.out x hx g4 e);have p4:qN w4 (w.heap.size+5) 2=qk a2 q c2:=G.k5.cell 2;have f4:=G.k5.frozen 2;have eb:qn w4 w 1=qj c:=G.k0.cell 1;have dq:(w4.setCell (qR (w.heap.size+1+1+1+1+1) 2)$ qS (qP g4) (q+1) c4).cell? (qh w 1)=qj c:=(G.set 2$ qS (qP g4) (q+1) c4).k0.cell 1;have H4:=aR$ xA G$ xA P4$ xA T4$ xA O4 ay;clear S P T O y O4 G P4 T4 ay D t cc a3 HQ p2 z0)
     apply(cx.out _).mono;rintro e wz ⟨rfl,rfl⟩;let⟨G,P4,T4,O4,ay⟩:=H4.out;have t5:Turn (λj=>j=w.heap.size+5) w4 (w4.setCell (qR (w.heap.size+1+1+1+1+1) 2)$ qS (qP g4) (q+1) c4):=aC w4 (w.heap.size+5) 2$ qS (qP g4) (q+1) c4;have S5:Lst w (w4.setCell (qR (w.heap.size+1+1+1+1+1) 2)$ qS (qP g4) (q+1) c4) sn c k d #[qS X m c0,qI$ 65536+Ra (aF ms) m,qS (qP g4) (q+1) c4,qI$ Fl (aF ms) m,qI 0,qS Q m c5]:=G.set 2$ qS (qP g4) (q+1) c4;have P5:=P4.kept t5 (λk f e=>by have l:k=w.heap.size+5:=e;subst l;exact aQ P4.head f G.k5 Ja) (λx hx k f e=>by have l:k=w.heap.size+5:=e;subst l;exact aQ (P4.rows x hx) f G.k5 Ja);have T5:=T4.kept t5 (λk f e=>by have l:k=w.heap.size+5:=e;subst l;exact aQ T4.head f G.k5 Ja) (λx hx k f e=>by have l:k=w.heap.size+5:=e;subst l;exact aQ (T4.rows x hx) f G.k5 Ja);have O5:=O4.kept t5 (λk f e=>by have l:k=w.heap.size+5:=e;subst l;exact aQ O4 f G.k5 Ja);have H5:=aR$ xA S5$ xA O5$ xA P5$ xA T5 ay;clear G P4 T4 O4 ay t5 S5 P5 T5 O5 H4 p4 f4 eb dq;go_wp2
     go_roundw
     .exact⟨q+1,_,_,_,J,by go_num,rfl,dy,H5.out.1,H5.out.2.1,H5.out.2.2.1,H5.out.2.2.2.1,H5.out.2.2.2.2⟩
     .simp[qf,intOf];omega
    .have bg:¬(q:Int)<(sn:Int):=J
     have d5:q=sn:=J
     have b6:Turn (λj=>j=w.heap.size+5) wr (wr.setCell (qR (w.heap.size+1+1+1+1+1) 4)$ qI rq):=aC wr (w.heap.size+5) 4$ qI rq;have N:Lst w (wr.setCell (qR (w.heap.size+1+1+1+1+1) 4)$ qI rq) sn c k d #[qS X m c0,qI$ 65536+Ra (aF ms) m,qS a2 q c2,qI$ Fl (aF ms) m,qI rq,qS Q m c5]:=S.set 4$ qI rq;have b5:=P.kept b6 (λk f e=>by have l:k=w.heap.size+5:=e;subst l;exact aQ P.head f S.k5 Ja) (λx hx k f e=>by have l:k=w.heap.size+5:=e;subst l;exact aQ (P.rows x hx) f S.k5 Ja);have b8:=T.kept b6 (λk f e=>by have l:k=w.heap.size+5:=e;subst l;exact aQ T.head f S.k5 Ja) (λx hx k f e=>by have l:k=w.heap.size+5:=e;subst l;exact aQ (T.rows x hx) f S.k5 Ja);have bi:=O.kept b6 (λk f e=>by have l:k=w.heap.size+5:=e;subst l;exact aQ O f S.k5 Ja);have p4:=S.k5.e4;have f4:=S.k5.frozen 4;have v0:=N.k5.z6;have u0:=N.k1.z6;have n0:=N.k1.frozen
     have c9:=aR (show lay (aF ms) sn c k=⟨(List.range m).map$ plc$ aF ms,(65536+Ra (aF ms) m),(List.range q).map$ slt (aF ms) c k,Fl (aF ms) m,rq,(List.range m).map λi=>tgs (aF ms)$ (aF ms).getD i zP⟩by
      unfold lay
      rw[cs,ap.out,ch.out,xY,d5])
     have aq:=cZ (wr.setCell (qR (w.heap.size+1+1+1+1+1) 4)$ qI rq) (w.heap.size+1) (qS X m c0) (qI$ 65536+Ra (aF ms) m) (qS a2 q c2) (qI$ Fl (aF ms) m) (qI rq)$ qS Q m c5;have k6:=mH N.k1 (qS X m c0) (qI$ 65536+Ra (aF ms) m) (qS a2 q c2) (qI$ Fl (aF ms) m) (qI rq)$ qS Q m c5;have b3:=b5.kept aq (λk f e=>by have l:k=w.heap.size+1:=e;subst l;exact aQ b5.head f N.k1 Ja) (λx hx k f e=>by have l:k=w.heap.size+1:=e;subst l;exact aQ (b5.rows x hx) f N.k1 Ja);have b9:=b8.kept aq (λk f e=>by have l:k=w.heap.size+1:=e;subst l;exact aQ b8.head f N.k1 Ja) (λx hx k f e=>by have l:k=w.heap.size+1:=e;subst l;exact aQ (b8.rows x hx) f N.k1 Ja);have bb:=bi.kept aq (λk f e=>by have l:k=w.heap.size+1:=e;subst l;exact aQ bi f N.k1 Ja);have ba:=aG N.be aq (λj C=>by have l:j=w.heap.size+1:=C;omega) N.be.size;have c8:=aR$ xA N.k1$ xA b3$ xA b9$ xA bb$ xA ba SP;clear N b5 b8 bi b6 aq k6 b3 b9 bb ba S O P T SP d5 ap;go_wp2;refine aR2 c8.out.1 _ _ _ _ _ _ _ _ rfl ?_;let⟨_,b3,b9,bb,ba,SP⟩:=c8.out;refine⟨ba,X,c0,xs,a2,c2,Q,c5,ts,?_,?_⟩
     .unfold oG;rw[c9.out,ag.out.1,ag.out.2.1];simp
     .rw[c9.out];exact⟨by rw[ag.out.1];exact b3.mono J J,ag.out.2.2.1,by simpa using bb.mono J,by rw[ag.out.2.1];exact b9.mono J J,ag.out.2.2.2,by simpa using SP⟩
structure Kst (w W:qw)(s c k d:Int):Prop where
 be:qY w W
 k0:Blk W w.heap.size (qW s c k d) 37
 k1:Blk W (w.heap.size+1) zL 65
 k2:Blk W (w.heap.size+2) zL 65
def Kst.bw {w W b:qw}(h:Kst w W s c k d)(a:qY W b):Kst w b s c k d:=⟨h.be.trans$ a.mono h.be.size,h.k0.bw a,h.k1.bw a,h.k2.bw a⟩
def Kst.drew {w W:qw}(h:Kst w W s c k d):Kst w W.drew s c k d:=⟨h.be.drew,h.k0,h.k1,h.k2⟩
def aR5 (w s c k d):Kst w (((w.alloc$ .cells (qW s c k d) 37).alloc$ .cells qz 65).alloc$ .cells qz 65) s c k d:=by
 have l:=Blk.new w (qW s c k d) 37;have j:qY w (w.alloc$ .cells (qW s c k d) 37):=bal;have s0:(w.alloc$ .cells (qW s c k d) 37).heap.size=w.heap.size+1:=Jb
 generalize w.alloc (.cells (qW s c k d) 37)=a at *;have i:=Blk.new a qz 65;have p:qY a (a.alloc$ .cells qz 65):=bal;have s1:(a.alloc$ .cells qz 65).heap.size=w.heap.size+2:=by simp[s0]
 rw[s0]at i;generalize a.alloc (.cells qz 65)=e at *;have g:=Blk.new e qz 65;have f:qY e (e.alloc$ .cells qz 65):=bal;rw[s1]at g;have b:=p.trans$ f.mono J;exact⟨j.trans$ b.mono J,l.bw b,i.bw f,g⟩
def aF5 {w W:qw}(b:Blk W (w.heap.size+1) zL 65)(v0 v1 v2 v3 v4 d V)(Q:Ending->World->Prop)(tmps)(f:tmps[4]?=some (.pointer$ some$ qR (w.heap.size+1) 0))(e:tmps[5]?=some (qI V))(a:Q (.returned$ .tuple #[.agg #[v0,v1,v2,v3,v4,d],qI V]) (st6 W (w.heap.size+1) v0 v1 v2 v3 v4 d)):
 bodyPost prog f61 Q Exit.ret ⟨tmps,[]⟩ (st6 W (w.heap.size+1) v0 v1 v2 v3 v4 d):=by
 have k:=mH b v0 v1 v2 v3 v4 d;let⟨g,i,j,l,p,q⟩:=k.z6;refine bodyPost_ret_by (v:=.tuple #[.agg #[v0,v1,v2,v3,v4,d],qI V]) ?_ rfl a;simp[results,results61,go_sem,f,e,g,i,j,l,p,q]
def qH {w W:qw}{ps:List PMod}{V:Int}(S:Kst w W s c k d)(a:lkc ps s c k d=V)(f:V≠0)(tmps)(b:tmps[4]?=some (.pointer$ some$ qR (w.heap.size+1) 0))(e:tmps[5]?=some (qI V)):
 bodyPost prog f61 (LkM w ps s c k d) Exit.ret ⟨tmps,[]⟩ (st6 W (w.heap.size+1) (qS none 0 0) (qI 0) (qS none 0 0) (qI 0) (qI 0)$ qS none 0 0):=
 aF5 S.k1 _ _ _ _ _ _ V _ tmps b e (aKf (aG S.be (cZ _ _ _ _ _ _ _ _) (λj g=>by grind) S.be.size) a f)
def aBo (a n a0 ms s c k d w)(h:MSD w a n a0 ms):
 qC 61 #[qS a n a0,.agg$ qW s c k d] w (LkM w (aF ms) s c k d):=by
 have K0:=aR5 w s c k d;have hl:=h.s.1;have ai:(aF ms).length=n:=by rw[cK,hl]
 have HH:=zh h;have F:=zb w λW hb=>aF6 a n a0 ms s c k d W$ h.bw hb;let⟨V,hV⟩:=aN$ fE (aF ms) s c k d;rw[<-hV]at F;have HV:=zh hV;have HK:=zh K0;have c0:=K0.k0.z4;clear h K0 hV
 delta qC;go_in
 go_wp2_with fail
 apply(F _ HK.be).mono;rintro e w1 ⟨rfl,af⟩;have Y:=HK.bw af;clear af c0 HK;by_cases D:V=0
 .have N:=HV.o;rw[D]at N;let⟨a5,h4,ac⟩:=vM N.symm;have C:=zh N.symm;have a3:=zh ac;have ah:=zh a5;rw[ai]at h4;subst D;clear N ac a5;have a9:=zh Y;clear Y;go_wp2;go_loopw [7] (λi wr=>∃m:Nat,m<=n/\i=qI m/\(∀j,j<m->aAc (aF ms) ((aF ms).getD j zP))/\Kst w wr s c k d) (qf n)
  .exact⟨0,xC _,rfl,λj hj=>absurd hj J,a9⟩
  .clear a9;obtain⟨m,hm,rfl,hv,S⟩:=hrel;by_cases ae:m<n
   .have ag:(m:Int)<(n:Int):=J
    have H:=HH.bw S.be;obtain⟨b,ak,rfl,q0,q1,q2,q3,q4,q5,q6,q7⟩:=H.s.at m ae;have a7:=zh (oP (qe b ak) n a0 ms (ms.getD m aL) wr H a3.o h4 (H.d m ae) (by rw[<-dB];exact a3.o m J));have a8:=zh$ dB (ms:=ms) (i:=m);have HG:=zh$ xA hv S;generalize ms.getD m aL=M at *;clear H hv S;go_wp2_with fail
    apply a7.mono;rintro e w2 ⟨ad,H2⟩;have S2:=HG.2.bw ad;clear ad a7 q0 q1 q2 q3 q4 q5 q6 q7;rcases H2 with⟨p,v,rfl⟩|⟨U,ay,b5,rfl,_⟩
    .have A:=zh (aS9 (d:=d) (k:=k) (w:=c) (s:=s) C.o (λhi=>p (by rw[<-a8.o];exact hi m J)));have q:=zh S2;have u0:=S2.k2.z6;have p0:=S2.k1.z6;have y0:=S2.k1.frozen;clear S2 p;go_wp2;exact qH q A Ja _ rfl rfl
    .have aj:=zh (show ∀j,j<m+1->aAc (aF ms) ((aF ms).getD j zP)from λj hj=>by
      by_cases e:j=m
      .subst e;rw[a8.o];exact U
      .exact HG.1 j J)
     have q:=zh S2;clear S2 U;go_wp2
     go_roundw
     .exact⟨m+1,J,by go_num,aj,q⟩
     .simp[qf,intOf];omega
   .have ag:¬(m:Int)<(n:Int):=J
    have HI:Zh (oH$ aF ms):=λi hi=>hv i J;have a1:=zh$ aA0 a n a0 ms s c k d wr$ HH.bw S.be;let⟨B,hB⟩:=aN$ decide$ 0<s/\¬oV (aF ms) c;rw[<-hB]at a1;have HB:=zh hB;have q:=zh S;have c0:=S.k0.z4;clear S hv hB;go_wp2_with fail
    apply a1.mono;rintro e w3 ⟨rfl,aa⟩;have K:=q.bw aa;clear aa a1 q c0;cases B with
    | true=>
      have A:=zh$ aS8 (d:=d) (k:=k) C HI$ of_decide_eq_true HB.symm;have q:=zh K;have u0:=K.k2.z6;have p0:=K.k1.z6;have y0:=K.k1.frozen;clear K;go_wp2;exact qH q A Ja _ rfl rfl
    | false=>
      have a4:=zh$ of_decide_eq_false HB.symm;have ab:=zh$ aMe a n a0 ms s c k d w3 (HH.bw K.be) h4 ah a3 HI;have q:=zh K;have c0:=K.k0.z4;clear K;go_wp2_with fail
      apply ab.mono;rintro e w4 ⟨a6,Q,P,xs,a2,R,X,O,ts,rfl,Z⟩;have S4:=q.bw a6;let⟨L,hL⟩:=aN$ lay (aF ms) s c k;rw[<-hL]at Z⊢;have y:=zh hL;have al:qY w4 (w4.alloc$ .cells (qL L Q xs.length P a2 L.slots.length R X ts.length O) 65):=bal;have kL:=Blk.new w4 (qL L Q xs.length P a2 L.slots.length R X ts.length O) 65;have u:=S4.bw al;have l:LayO (w4.alloc$ .cells (qL L Q xs.length P a2 L.slots.length R X ts.length O) 65) w3.heap.size L Q P xs a2 R X O ts:=⟨Z.p.bw al,Z.ps,Z.s.bw al,Z.t.bw al,Z.tt,Z.sp⟩;have:=q.k2.lt;have:=kL.z6;have I:=zh$ xA u l;have:(w4.alloc$ .cells (qL L Q xs.length P a2 L.slots.length R X ts.length O) 65).heap.size=w4.heap.size+1:=Jb
      clear a6 S4 Z al kL hL q ab c0;unfold oG;by_cases h7:16384<L.flash
      .have A:=zh$ aS7 (d:=d) C.o HI.o a4.o$ y.o ▸ h7;have u0:=u.k2.z6;have p0:=u.k1.z6;have y0:=u.k1.frozen;clear u l;go_wp2;exact qH I.1 A Ja _ rfl rfl
      .have bd:¬16384<L.flash:=h7;by_cases h8:16384<L.ram
       .have A:=zh$ aS6 (d:=d) C.o HI.o a4.o (y.o ▸ h7)$ y.o ▸ h8;have u0:=u.k2.z6;have p0:=u.k1.z6;have y0:=u.k1.frozen;clear u l;go_wp2;exact qH I.1 A Ja _ rfl rfl
       .have A:=zh$ aTb (d:=d) C.o HI.o a4.o (y.o ▸ h7)$ y.o ▸ h8;have p0:=u.k1.z6;have y0:=u.k1.frozen;clear u l;go_wp2;refine aF5 I.1.k1 _ _ _ _ _ _ 0 _ _ rfl rfl ?_;let⟨u,l⟩:=I.o;have t:=cZ (w4.alloc$ .cells (qL L Q xs.length P a2 L.slots.length R X ts.length O) 65) (w.heap.size+1) (qS Q xs.length P) (qI L.stack) (qS a2 L.slots.length R) (qI L.flash) (qI L.ram)$ qS X ts.length O;refine⟨aG u.be t (λj hj=>by have e:j=w.heap.size+1:=hj;omega) u.be.size,Q,P,xs,a2,R,X,O,ts,?_,?_⟩
        .unfold lkL;rw[if_pos A.o,A.o,<-y.o];rfl
        .unfold lkL;rw[if_pos A.o,<-y.o];have p:∀k,w3.heap.size<=k->¬(k=w.heap.size+1):=λk G e=>J
         exact⟨(l.p.kept t (λk G=>p k (l.p.lt.1 k G).1) λx hx k G=>p k (l.p.lt.2 x hx k G).1).mono J J,l.ps,(l.s.kept t λk G=>p k (l.s.lt k G).1).mono J,(l.t.kept t (λk G=>p k (l.t.lt.1 k G).1) λx hx k G=>p k (l.t.lt.2 x hx k G).1).mono J J,l.tt,l.sp⟩
 .have am:(V !=0)=true:=by simp[D]
  have A:=zh$ aTa (ps:=aF ms) HV.symm D;have q:=zh Y;have u0:=Y.k2.z6;have p0:=Y.k1.z6;have y0:=Y.k1.frozen;have c0:=Y.k0.z4;clear Y;go_wp2
  go_region_law (first
   | (go_simp;go_at_call 109;refine(F _ (by first|exact q.be|exact q.drew.be)).mono ?_;rintro e f ⟨rfl,E⟩;have g:=zh$ show Kst w f s c k d from(by first|exact q.bw E|exact q.drew.bw E);have:qN f (qs w+1+1) 0=qk none 0 0:=g.k2.cell 0;have:qN f (qs w+1+1) 1=qj 0:=g.k2.cell 1;have:qN f (qs w+1+1) 2=qk none 0 0:=g.k2.cell 2;have:qN f (qs w+1+1) 3=qj 0:=g.k2.cell 3;have:qN f (qs w+1+1) 4=qj 0:=g.k2.cell 4;have:qN f (qs w+1+1) 5=qk none 0 0:=g.k2.cell 5;have:qg f w 0=qk none 0 0:=g.k1.cell 0;have:qg f w 1=qj 0:=g.k1.cell 1;have:qg f w 2=qk none 0 0:=g.k1.cell 2;have:qg f w 3=qj 0:=g.k1.cell 3;have:qg f w 4=qj 0:=g.k1.cell 4;have:qg f w 5=qk none 0 0:=g.k1.cell 5;have:f.frozen? (qr w 0)=false:=g.k1.frozen 0;have:f.frozen? (qr w 1)=false:=g.k1.frozen 1;have:f.frozen? (qr w 2)=false:=g.k1.frozen 2;have:f.frozen? (qr w 3)=false:=g.k1.frozen 3;have:f.frozen? (qr w 4)=false:=g.k1.frozen 4;have:f.frozen? (qr w 5)=false:=g.k1.frozen 5;have:qn f w 0=qj s:=g.k0.cell 0;have:qn f w 1=qj c:=g.k0.cell 1;have:qn f w 2=qj k:=g.k0.cell 2;have:qn f w 3=qj d:=g.k0.cell 3;clear E))
  all_goals
   go_wp2;exact qH g A D _ rfl rfl
open Go Go.Maps Go.WideShapes
set_option maxRecDepth 100000
def jO (x w)(a:0<=x:=by omega)(b:x<=4294967295:=by omega):qC 259 #[qI x] w λe d=>e=.returned (qI$ rnd x)/\d=w:=by
 go_enter func259,ntmps259
 go_wp2;go_ret;exact⟨aJ (by unfold rnd;rw[show x+31=x+32-1 from J]),rfl⟩
def oK (a n d w)(hn:n<=1048576):qC 199 #[qS a n d] w λe g=>e=.returned (qI$ rnd$ 4*(n:Int))/\g=w:=by
 have b:=zh$ jO (4*(n:Int)) w
 delta qC;go_in
 go_wp2_with fail
 apply b.mono;rintro e f ⟨rfl,rfl⟩;go_wp2;go_ret;exact⟨rfl,rfl⟩
def Md.okI {m:Md}{w:qw}(h:m.md w):qC 255 #[.agg$ qM m.nm m.ta m.tn m.tc m.ba m.bn m.bc m.da m.dn m.dc m.bss m.ra m.rn m.rc m.ia m.im m.ic m.ea m.en m.ec] w (qB w$ qI$ gX m.pm):=by
 have:=aA4 _ _ _ _ _ _ _ _ _ _ _ _ _ _ _ _ _ _ _ _ _ _ _ _ _ _ w h;rw[aO0 h]at this
 grind
def aUv {a b:ByteArray}:a.data.toList=b.data.toList ↔ a=b:=by
 constructor
 .intro e;cases a
  cases b
  simp at e;rw[e]
 .grind
def aOk {ms:List Md}{n:Nat}(q:ms.length=n):(size (fd (dM ms) n)=n) ↔ nms (aF ms):=by
 have h:=aD9 (dM ms) n;have a:∀i,i<n->((aF ms).getD i zP).nm=(ms.getD i aL).nm:=λi hi=>by rw[dB];rfl
 constructor
 .intro e;rw[xR e]at h;intro i hi k p;rw[cK,q]at hi;have g:=h.symm;rw[List.all_eq_true]at g;have j:=g i (by grind);rw[List.all_eq_true]at j;have u:=j k (by grind);rw[a k J,a i hi];intro l;have e2:dM ms k=dM ms i:=by unfold dM;rw[l]
  grind
 .intro d;apply of_decide_eq_true;rw[h,List.all_eq_true];intro i hi;rw[List.all_eq_true];intro k p;have f:i<n:=by grind
  have b:k<i:=by grind
  have:=d i (by rw[cK];omega) k b;rw[a k J,a i f]at this;have t:dM ms k≠dM ms i:=λe=>this$ aUv.1 e
  grind
end Go.Proofs.YtdjdcdnjjmjonaaGreat
namespace Go.Proofs.YtdjdcdnjjmjonaaGreat
open Go Go.Maps Go.WideShapes
open Go.RowKit
open Go.Proofs.Tryz
set_option maxRecDepth 100000
variable {R b base g gm m n q:Nat}{a:qO}{c d fx k rx s:Int}{cs:Array Value}{f:Nat->TB}{o:Oper}{ps:List PMod}{v:Value}
def aAx (a n f ms s c k d w)(h:MSD w a n f ms):
 qC 178 #[qS a n f,.agg$ qW s c k d] w (qB w$ qI$ fE (aF ms) s c k d):=by
 have hA:qY w (w.alloc$ .cells (qW s c k d) 37):=bal;have hl:=h.s.1;have:=h.s.2.1;have a0:=cK ms;have HH:=zh h;have HC:=zh λW=>aA5 s c k d W;clear h
 delta qC;go_in
 go_wp2_with fail
 apply(HC _).mono;rintro e w1 ⟨rfl,U⟩;have y:=zh$ hA.trans$ U.mono Jb;clear hA U HC;cases t:cfo s c k d with
 | false=>
   have u:=zh$ aNj (ps:=aF ms) t;go_wp2;go_ret;exact⟨aJ u.symm,y⟩
 | true=>
   by_cases x:n<1\/4<n
   .have u:=zh$ aNi (ps:=aF ms) t J;by_cases a7:n<1
    .have A:(n:Int)<1:=J
     clear x;go_wp2;go_ret;exact⟨aJ u.symm,y⟩
    .have A:¬(n:Int)<1:=J
     have P:(4:Int)<(n:Int):=J
     clear x;go_wp2;go_ret;exact⟨aJ u.symm,y⟩
   have A:¬(n:Int)<1:=J
   have P:¬(4:Int)<(n:Int):=J
   have G:=zh (show ¬((aF ms).length<1\/4<(aF ms).length)by rw[a0,hl];exact x);clear x;go_wp2;go_loopw [20] (λi wr=>∃m:Nat,m<=n/\i=qI m/\(∀j,j<m->gX ((aF ms).getD j zP)=0)/\qY w wr) (qf n)
   .exact⟨0,xC _,rfl,λj hj=>absurd hj J,y⟩
   .obtain⟨m,hm,rfl,Y,B⟩:=hrel;by_cases S:m<n
    .have N:(m:Int)<(n:Int):=J
     have H:=HH.bw B;obtain⟨b,a4,rfl,q0,q1,q2,q3,q4,q5,q6,q7⟩:=H.s.at m S;have F:=zb wr λW hb=>Md.okI$ MD.bw (H.d m S) hb;let⟨V,q⟩:=aN$ gX (ms.getD m aL).pm;rw[<-q]at F;have O:=zh (q.trans (by rw[<-dB]));have X:=zh Y;have Q:=zh B;generalize ms.getD m aL=M at *;have al:qY wr (wr.alloc$ .cells (qM M.nm M.ta M.tn M.tc M.ba M.bn M.bc M.da M.dn M.dc M.bss M.ra M.rn M.rc M.ia M.im M.ic M.ea M.en M.ec) 128):=bal;have I:=zh al;clear Y B H q al;go_wp2_with fail
     apply(F _ I).mono;rintro e w2 ⟨rfl,p⟩;have C:=yT I p;have l:=zh$ yT Q C;clear p C F Q I q0 q1 q2 q3 q4 q5 q6 q7;by_cases hz:V=0
     .subst hz
      have a2:=zh (show ∀j,j<m+1->gX ((aF ms).getD j zP)=0 from λj hj=>by
       by_cases e:j=m
       .subst e;exact O.symm
       .exact X j J)
      go_wp2
      go_roundw
      .exact⟨m+1,J,by go_num,a2,l⟩
      .simp[qf,intOf];omega
     .have a5:(V !=0)=true:=by simp[hz]
      have u:=zh (aNh (ps:=aF ms) t G.o m J (by rw[<-O.o];exact hz));go_wp2;go_ret;exact⟨aJ u.symm,l⟩
    .have N:¬(m:Int)<(n:Int):=J
     have X:Zh (jH$ aF ms):=λi hi=>Y i J;have Q:=zh B;have HF:=zh$ rK a n f ms wr (HH.s.bw B) J;have Z:=pH (dM ms) n;have E:=zh$ aOk (ms:=ms) hl;let⟨K,g⟩:=aN$ size$ fd (dM ms) n;have a1:=zh g;rw[<-g]at Z E;clear Y B g;go_wp2_with fail
     apply HF.mono;rintro e w2 ⟨rfl,D,p⟩;have:∀ty,(Builtin.len_ #[273] ty #[.map$ some wr.heap.size]).run prog w2=.ok (qI (K:Int)) w2:=by intro ty;rw[a1.o];exact D.len underlying273 ty
     have l:=zh$ yT Q p;clear D p HF Q;by_cases R:K=n
     .have u:=zh$ aNk (d:=d) t G X$ E.1 R;subst R;have a3:((K:Int) !=(K:Int))=false:=Jb
      go_wp2;go_ret;exact⟨aJ u.symm,l⟩
     .have u:=zh (show fE (aF ms) s c k d=4 by
       unfold fE
       rw[if_neg (by rw[t];decide),if_neg G.o,if_neg (λe=>e X.o),if_pos (λe=>R$ E.o.2 e)])
      have a3:((K:Int) !=(n:Int))=true:=Jc
      go_wp2;go_ret;exact⟨aJ u.symm,l⟩
def GB (ps:List PMod)(m q R:Nat):Prop:=(∀i,i<ps.length->∀k,k<(ps.getD i zP).bl.length->(i<m\/(i=m/\k<q))->((ps.getD i zP).bl.getD k []).length<=R)/\(R=0\/∃i,i<ps.length/\∃k,k<(ps.getD i zP).bl.length/\((ps.getD i zP).bl.getD k []).length=R)
def aSc (ps):GB ps 0 0 0:=⟨λi _ k _ h=>J,.inl rfl⟩
def GB.next (h:GB ps m q R)(l:(ps.getD m zP).bl.length<=q):GB ps (m+1) 0 R:=
 ⟨λi hi k j e=>h.1 i hi k j (by
  by_cases e2:i=m
  .subst e2;right;exact⟨rfl,J⟩
  .left;omega),h.2⟩
def GB.step (h:GB ps m q R)(l:m<ps.length)(p:q<(ps.getD m zP).bl.length):GB ps m (q+1) (max R ((ps.getD m zP).bl.getD q []).length):=by
 refine⟨λi hi k j e=>?_,?_⟩
 .by_cases e2:i=m/\k=q
  .grind
  .have:=h.1 i hi k j J;omega
 .by_cases hc:((ps.getD m zP).bl.getD q []).length<=R
  .rw[show max R ((ps.getD m zP).bl.getD q []).length=R from J];exact h.2
  .grind
def aKk (h:GB ps ps.length 0 R)(w)(t:1<=w):(w<(R:Int)) ↔ ¬oV ps w:=by
 constructor
 .intro l hs;rcases h.2 with p|⟨i,hi,k,j,e⟩
  .omega
  .grind
 .intro hs;apply Classical.byContradiction;intro a;exact hs λi hi k j=>jK$ h.1 i hi k j$ .inl hi
def tC (a n a0 ms w)(h:MSD w a n a0 ms)(hv:jH (aF ms))(a3:n<=4):
 qC 180 #[qS a n a0] w λe w'=>∃R:Nat,e=.returned (qI (R:Int))/\GB (aF ms) (aF ms).length 0 R/\qY w w':=by
 have hl:=h.s.1;have F:(aF ms).length=n:=by rw[cK,hl]
 have HH:=zh h;have a2:=zh hv
 delta qC;go_in
 go_wp2;go_loopw [3,10] (λx i wr=>∃(m R:Nat),m<=n/\i=qI m/\x=qI (R:Int)/\R<=64/\Hid (GB (aF ms) m 0 R)/\qY w wr) (λ_ i _=>n-(intOf i).toNat)
 .exact⟨0,0,xC _,rfl,rfl,xC _,zh$ aSc _,brf⟩
 .obtain⟨m,R,hm,rfl,rfl,hR,S,B⟩:=hrel;by_cases N:m<n
  .have E:(m:Int)<(n:Int):=J
   have H:=HH.bw B;obtain⟨b,a7,rfl,q0,q1,q2,q3,q4,q5,q6,q7⟩:=H.s.at m N;have p:=H.d m N;let⟨P,d⟩:=aN$ (aF ms).getD m zP;have t:P=(ms.getD m aL).pm:=d.trans$ dB;have y:=a2 m J;rw[<-d]at y;let⟨_,_,_,vb,_,_,_,a6⟩:=cR y;have Y:(ms.getD m aL).bn=P.bl.length:=by rw[t];show _=(List.map _ _).length;rw[xH];exact p.b.1.symm
   have X:Zh (∀j,j<P.bl.length->((ms.getD m aL).bl.getD j zB).2.1=(P.bl.getD j []).length):=λj hj=>by rw[t];exact(uV p j J).1
   have U:=zb wr λW hb=>(MD.bw p hb).b;have Q:=zh d;rw[Y]at q2;have G:=zh Y;have f:=zh B;generalize ms.getD m aL=M at *;generalize M.ba=ba at *;have al:qY wr (wr.alloc$ .cells (qM M.nm M.ta M.tn M.tc ba P.bl.length M.bc M.da M.dn M.dc M.bss M.ra M.rn M.rc M.ia M.im M.ic M.ea M.en M.ec) 128):=bal;have a5:=zh al;clear B H p d t Y al y;generalize wr=wo at *;go_wp2;go_loopw [3,17] (λx i wx=>∃(q R:Nat),q<=P.bl.length/\i=qI q/\x=qI (R:Int)/\R<=64/\Hid (GB (aF ms) m q R)/\qY wo wx) (λ_ i _=>P.bl.length-(intOf i).toNat)
   .exact⟨0,R,xC _,rfl,rfl,hR,S,a5⟩
   .obtain⟨q,I,hq,rfl,rfl,Z,K,B⟩:=hrel;by_cases l:q<P.bl.length
    .have u:(q:Int)<(P.bl.length:Int):=J
     let⟨_,_,a1,_,_⟩:=U wr B;obtain⟨b2,a8,rfl,hc⟩:=a1 (by rw[G.o];omega);have g:=hc q$ G.o ▸ l;rw[X.o q l]at g;have a4:=a6 q l;let⟨O,k⟩:=aN$ (P.bl.getD q []).length;rw[<-k]at g a4;have D:=zh (show GB (aF ms) m (q+1) (max I O)by rw[k,Q.o];exact K.out.step J$ Q.o ▸ l);have V:max (I:Int) (O:Int)=((max I O:Nat):Int):=J
     have A:=zh B;generalize M.bl.getD q zB=bq at g;clear a1 hc k B;go_wp2
     go_roundw
     .exact⟨q+1,max I O,J,by go_num,(by rw[<-V];congr 1;split<;>omega),J,D,A.o⟩
     .simp[intOf];omega
    .have u:¬(q:Int)<(P.bl.length:Int):=J
     have D:=zh (K.out.next (by rw[<-Q.o];omega));have A:=zh$ yT f B;clear B;go_wp2
     go_roundw
     .exact⟨m+1,I,J,by go_num,rfl,Z,D,A⟩
     .simp[intOf];omega
  .have E:¬(m:Int)<(n:Int):=J
   have s:=zh (show GB (aF ms) (aF ms).length 0 R by rw[F,<-show m=n from J];exact S.out);have f:=zh B;clear B S;go_wp2;go_ret;exact⟨R,rfl,by first|exact s.o|(have:=s.o;rw[F]at this;exact this),f.o⟩
def vV (g x a n b w)(h:Blk w g #[qI x,.func (.func 199) #[] #[]] 277)(t:0<=x)(u:x<=1000000)(hn:n<=65535):
 qC 260 #[.pointer$ qP g,qS a n b] w λe w'=>e=.returned (qI x)/\Blk w' g #[qI$ x+rnd (4*(n:Int)),.func (.func 199) #[] #[]] 277/\Turn (λj=>j=g) w w':=by
 have:=h.e0;have:=h.e1;have:=h.frozen 0;have p:=bC (x:=4*(n:Int));obtain⟨RR,d⟩:=aN$ rnd$ 4*(n:Int);have l:=zh λW=>oK a n b W J;rw[<-d]at p l⊢;have:IntKind.i64.wrap (x+RR)=x+RR:=bN _ J J;have i:Zh (Blk ((w.setCell (qR g 0)$ qI$ x+RR).drew) g #[qI$ x+RR,.func (.func 199) #[] #[]] 277/\Turn (λj=>j=g) w ((w.setCell (qR g 0)$ qI$ x+RR).drew)):=⟨h.set 0$ qI$ x+RR,pO$ aC w g 0$ qI$ x+RR⟩;clear h d;go_enter func260,ntmps260
 go_wp2_with fail
 go_region_law (first
  | (go_simp;go_at_call 199;refine(l.o _).mono ?_;rintro e y ⟨rfl,rfl⟩))
 all_goals
  go_wp2;go_ret;exact⟨rfl,i.o.1,i.o.2⟩
def oZ (g x v w)(h:Blk w g #[qI x,.func (.func 259) #[] #[]] 279)(u:0<=x:=by omega)(y:x<=1000000:=by omega)(i:0<=v:=by omega)(A:v<=1000000:=by omega):
 qC 262 #[.pointer$ qP g,qI v] w λe w'=>e=.returned (qI x)/\Blk w' g #[qI$ x+rnd v,.func (.func 259) #[] #[]] 279/\Turn (λj=>j=g) w w':=by
 have:=h.e0;have:=h.e1;have:=h.frozen 0;have t:=bC i;obtain⟨RR,a⟩:=aN$ rnd v;have p:=zh λW=>jO v W i;rw[<-a]at t p⊢;have:IntKind.i64.wrap (x+RR)=x+RR:=bN _ J J;have l:Zh (Blk ((w.setCell (qR g 0)$ qI$ x+RR).drew) g #[qI$ x+RR,.func (.func 259) #[] #[]] 279/\Turn (λj=>j=g) w ((w.setCell (qR g 0)$ qI$ x+RR).drew)):=⟨h.set 0$ qI$ x+RR,pO$ aC w g 0$ qI$ x+RR⟩;clear h a;go_enter func262,ntmps262
 go_wp2_with fail
 go_region_law (first
  | (go_simp;go_at_call 259;refine(p.o _).mono ?_;rintro e B ⟨rfl,rfl⟩))
 all_goals
  go_wp2;go_ret;exact⟨rfl,l.o.1,l.o.2⟩
def bkx (P:PMod)(x:Int)(k:Nat):List Int:=(List.range k).map λj=>x+cU P j
def oA (P x k):(bkx P x k).length=k:=by simp[bkx]
def aP7 (P x k):bkx P x (k+1)=bkx P x k++[x+cU P k]:=by simp[bkx,List.range_succ]
def aDh (g x P ba bc f w0 w)(h:Blk w g #[qI x,.func (.func 199) #[] #[]] 277)(hP:gX P=0)(af:0<=x)(a3:x<=900000)(s:qY w0 w)(hg:w0.heap.size<=g)(hb:BKS w0 ba P.bl.length bc f)(y:∀j,j<P.bl.length->(f.getD j zB).2.1=(P.bl.getD j []).length):
 qC 261 #[.pointer$ qP g,qS ba P.bl.length bc] w λe w'=>∃p a,e=.returned (qS p P.bl.length a)/\OG 3 1 clI w' w.heap.size (qS p P.bl.length a) (bkx P x P.bl.length)/\Blk w' g #[qI$ x+cU P P.bl.length,.func (.func 199) #[] #[]] 277/\Turn (λj=>j=g) w w':=by
 let⟨iI,a8,a9,aa,ab⟩:=info_parts nC;let⟨_,_,_,vb,_,_,_,ac⟩:=cR hP;have Z:=zh λk hk=>cV hP k hk;have a4:=zh λ(W:qw)(t:Turn (λj=>j=g) w W)=>hb.bw$ aG s t (λj N=>by have e:j=g:=N;omega) s.size;have X:=zh y;have ag:=h.lt;have HH:=zh h;clear h hb y s hP
 delta qC;go_in
 go_wp2;go_loopw [5,10] (λv i wr=>∃(q:Nat) (p:qO) (a:Nat),q<=P.bl.length/\i=qI q/\v=qS p q a/\OG 3 1 clI wr w.heap.size (qS p q a) (bkx P x q)/\Blk wr g #[qI$ x+cU P q,.func (.func 199) #[] #[]] 277/\Turn (λj=>j=g) w wr) (λ_ i _=>P.bl.length-(intOf i).toNat)
 .exact⟨0,none,0,xC _,rfl,rfl,gQ _ _ _ _ _,by have:=HH.o;rw[show x+cU P 0=x by simp[cU]];exact this,Turn.refl _ _⟩
 .obtain⟨q,p,a,hq,rfl,rfl,O,B,T⟩:=hrel;by_cases E:q<P.bl.length
  .have K:(q:Int)<(P.bl.length:Int):=J
   let⟨_,_,a0,_,_⟩:=a4 wr T;obtain⟨b2,aj,rfl,hc⟩:=a0 J;have U:=hc q E;rw[X.o q E]at U;have a2:=ac q E;let⟨LQ,R⟩:=aN$ (P.bl.getD q []).length;rw[<-R]at U a2;have rq:=Z q J;have M:=zh (show x+cU P q+rnd (4*(LQ:Int))=x+cU P (q+1)by rw[R];show _=x+(cU P q+rnd (4*((P.bl.getD q []).length:Int)));omega);have H:=zh$ aP7 P x q;let⟨b,a1⟩:=aN$ x+cU P q;rw[<-a1]at M H B;have ae:0<=b/\b<=1000000:=J
   generalize f.getD q zB=bq at U;obtain⟨a6,ah,a7,ai⟩:=bq;dsimp only at U;have Q:=zh$ vV g b a6 LQ a7 wr B J J J;have HQ:=zh$ xA O T;clear a0 hc R a1 O B T;go_wp2_with fail
   apply Q.mono;rintro e I ⟨rfl,S,F⟩;let⟨O,T⟩:=HQ;have G:=O.turn F (λj N=>by have e:j=g:=N;omega);have d:=T.trans F;have al:qY I (qm I #[qI b] 3):=bal;have V:=zh (show(qm I #[qI b] 3).ownsRow w.heap.size 3 1 (qS p q a) q ((bkx P x q).flatMap clI)by have:=G.bw al;unfold OG at this;rw[oA]at this;exact this);have ad:=d.size;have HR:=zh$ xA (G.bw al)$ xA (S.bw al)$ d.trans$ aI al;clear O T G d al S F Q HQ U;go_wp2_with (at_builtin;refine wpList_append_own _ rfl _ _ 25 rfl w.heap.size 3 iI (qI 0) 1 8 underlying25 a8 a9 aa ab rfl Ja (qS p q a) q ((bkx P x q).flatMap clI) rfl V.o (qh I 0) 1 1 (clI b) rfl rfl (cA I _ _ (clI b) rfl) (by intro u hu;simp[clI]at hu;subst hu;rfl) Jf J Jc ?_;intro v' w4 A D _)
   let⟨G,S,F⟩:=HR;have l:∀j,(qS p q a).ownBlock=some j->w.heap.size<=j:=λj N=>(G.lt j N).1
   have Y:OG 3 1 clI w4 (qs w) v' (bkx P x$ q+1):=by
    unfold OG;rw[oA,H.o,xU,xX];exact A
   have B4:=dD S D λe=>jK$ l _ e.symm;have T4:=vH F D l;obtain⟨a5,c4,rfl⟩:=aZ Y;rw[oA]at Y;have C:=zh$ xA Y$ xA B4 T4;have HL:=zh$ oA P x$ q+1;clear G S F l Y B4 T4 A D HR V
   go_roundw
   .exact⟨q+1,a5,c4,J,by go_num,by rw[HL.o],C.o.1,M.o ▸ C.o.2.1,C.o.2.2⟩
   .simp[intOf];omega
  .have K:¬(q:Int)<(P.bl.length:Int):=J
   have e:q=P.bl.length:=J
   rw[e]at O B;have C:=zh$ xA O$ xA B T;have HE:=zh e;clear O B T e;go_wp2;go_ret;exact⟨p,a,by rw[<-HE.o];rfl,C.o.1,C.o.2.1,C.o.2.2⟩
structure Tf (w:qw)(base g n:Nat)(f:Nat->TB):Prop where
 head:∃cs,Blk w g cs 164/\cs.size=n/\∀i,i<n->cs[i]?=some (svT (f i))
 rows:∀i,i<n->OG 121 3 clG w base (svT (f i)) (f i).1
 apart:∀i j,i<n->j<n->i≠j->∀k,(svT (f i)).ownBlock=some k->(svT (f j)).ownBlock≠some k
def Tf.bw {w w':qw}(h:Tf w base g n f)(e:qY w w'):Tf w' base g n f:=
 ⟨by obtain⟨a,b,d,j⟩:=h.head;exact⟨a,b.bw e,d,j⟩,λi hi=>(h.rows i hi).bw e,h.apart⟩
def Tf.cell {w:qw}(h:Tf w base g n f)(i)(hi:i<n):w.cell? (qR g i)=some (svT$ f i)/\w.frozen? (qR g i)=false:=by
 let⟨d,a,e,b⟩:=h.head;exact⟨(a.cell i).trans$ b i hi,a.frozen i⟩
def Tf.lt {w:qw}(h:Tf w base g n f):g<w.heap.size/\∀i,i<n->∀k,(svT$ f i).ownBlock=some k->base<=k/\k<w.heap.size:=by
 let⟨b,a,_⟩:=h.head;exact⟨a.lt,λi hi=>(h.rows i hi).lt⟩
def Tf.update {W t:qw}{x:TB}{g4 c4:Nat}(h:Tf W base g n f)(E:m<n)(M:W.grownBy t (svT$ f m).ownBlock)(hx:OG 121 3 clG t base (svT x) x.1)(hs:svT x=qS (qP g4) x.1.length c4)(A:(svT$ f m).ownBlock=some g4\/g4=W.heap.size):Tf (t.setCell (qR g m)$ svT x) base g n (λi=>if i=m then x else f i):=by
 let⟨a,b,d,q⟩:=h.head;have G:∀k,(svT$ f m).ownBlock=some k->k≠g:=λk G e=>by subst e;exact aQ (h.rows m E) G b Ja
 have I:Blk t g a 164:=dD b M λe=>G g e.symm rfl;have K:=aC t g m$ svT x
 have B:∀(u:Value)(H:List Tg),OG 121 3 clG t base u H->∀k,u.ownBlock=some k->¬(λj=>j=g) k:=λu H N k p e=>by
  have C:k=g:=e;subst C;exact aQ N p I Ja
 refine⟨⟨a.setIfInBounds m$ svT x,I.set m$ svT x,by grind,λi hi=>?_⟩,λi hi=>?_,λi j hi F y k l=>?_⟩
 .grind
 .by_cases e:i=m
  .simp only[e,if_true];exact hx.kept K$ B _ _ hx
  .simp only[e,if_false];have o:=(h.rows i hi).kept' M λk p C=>h.apart i m hi E e k p C;exact o.kept K$ B _ _ o
 .have w:(svT x).ownBlock=some g4:=by rw[hs];rfl
  by_cases e1:i=m
  .have e2:¬j=m:=λe=>y$ e1.trans e.symm;simp only[e1,e2,if_true,if_false]at l⊢;rw[w]at l;simp at l;subst l;rcases A with D|D
   .exact λe=>h.apart m j E F (λC=>e2 C.symm) g4 D e
   .exact λe=>jK$ (h.lt.2 j F g4 e).2
  .by_cases e2:j=m
   .simp only[e1,e2,if_true,if_false]at l⊢;rw[w];intro e;simp at e;subst e;rcases A with D|D
    .exact h.apart i m hi E e1 g4 l D
    .have:=(h.lt.2 i hi g4 l).2;omega
   .simp only[e1,e2,if_false]at l⊢;exact h.apart i j hi F y k l
def aL7 {w:qw}(h:w.ownsRow base 164 1 (qS (qP g) n n) n (madeCells (Value.cells$ qS none 0 0)$ n*1).toList)(f):Tf w f g n (λ_=>([],none,0)):=by
 obtain⟨A,h|⟨q,p,a,b,y,d,s,t,u,x⟩⟩:=h
 .grind
 .simp at b;obtain⟨rfl,rfl⟩:=b
  have e:a.toList=(madeCells (Value.cells$ qS none 0 0)$ n*1).toList:=by
   grind
  have e2:a=madeCells (Value.cells$ qS none 0 0) (n*1):=Array.toList_inj.1 e;refine⟨⟨a,d,by grind,λi hi=>?_⟩,λi hi=>gQ _ _ _ _ _,λi j _ _ _ k l=>by simp[svT,Value.ownBlock]at l⟩;rw[e2];simp[madeCells,Value.cells,svT,hi,Nat.mod_one]
def Tf.otg {w:qw}{c:Nat}(h:Tf w base g n f)(t:base<=g)(hn:n<=maxLen)(hc:c=n):OTg w base base (.slice (qP g) ((List.range n).map f).length c) ((List.range n).map f):=by
 subst hc;let⟨a,b,d,q⟩:=h.head;refine⟨⟨?_,.inr ⟨g,c,a,Jb,t,b,Jb,hn,by grind,?_⟩⟩,λx hx=>?_,?_⟩
 .rw[show((List.range c).map f).flatMap aEk=(List.range c).map (λi=>svT$ f i)by rw[List.flatMap_map];exact dS _ _];simp
 .apply List.ext_getElem?;intro i;rw[show((List.range c).map f).flatMap aEk=(List.range c).map (λi=>svT$ f i)by rw[List.flatMap_map];exact dS _ _]
  grind
 .simp at hx;obtain⟨i,hi,rfl⟩:=hx;exact h.rows i hi
 .rw[List.pairwise_iff_getElem];intro i j hi e p k l;simp at hi e l⊢;exact h.apart i j hi e J k l
def aAd (a n a3 ms w)(h:MSD w a n a3 ms)(hv:jH (aF ms))(hn:n<=4):
 qC 179 #[.slice a n a3] w λe w'=>qY w w'/\((¬oH (aF ms)/\∃v,e=.returned (.tuple #[v,.bool false]))\/(oH (aF ms)/\∃f,e=.returned (.tuple #[.slice (some$ qR w.heap.size 0) n n,.bool true])/\Tf w' w.heap.size w.heap.size n f/\∀i,i<n->(f i).1=tgs (aF ms) ((aF ms).getD i zP))):=by
 let⟨iT,ay,b2,b3,b4⟩:=info_parts aPg;let⟨iG,ax,az,b0,b1⟩:=info_parts aTf;have hl:=h.s.1;have b7:(aF ms).length=n:=by rw[cK,hl]
 have HH:=zh h;have ah:=zh hv;clear h hv
 delta qC;go_in
 go_wp2_with (at_make;refine wpList_make_full _ rfl _ _ 63 rfl w.heap.size 164 iT (.slice none 0 0) 1 underlying63 ay b2 b3 .i64 .i64 _ _ n rfl rfl rfl rfl (by rw[b4];omega) Jf aO ?_;intro V E p)
 have T0:=aL7 E w.heap.size;have B0:=bI p;have a0:=zh$ xA T0 B0;clear E p T0 B0;go_loopw [16] (λi wr=>∃(m:Nat) (f:Nat->TB),m<=n/\i=.int .i64 m/\Tf wr w.heap.size w.heap.size n f/\(∀i,i<n->(f i).1=if i<m then tgs (aF ms) ((aF ms).getD i zP) else [])/\(∀j,j<m->aAc (aF ms) ((aF ms).getD j zP))/\qY w wr) (qf n)
 .exact⟨0,λ_=>([],none,0),xC _,rfl,a0.o.1,λi hi=>Jb,λj N=>absurd N J,a0.o.2⟩
 .clear a0;obtain⟨m,f,hm,rfl,F,G,X,B⟩:=hrel;by_cases y:m<n
  .have an:(m:Int)<(n:Int):=J
   have H:=HH.bw B;obtain⟨b,bc,rfl,q0,q1,q2,q3,q4,q5,q6,q7⟩:=H.s.at m y;have ai:=H.d m y;have a2:=ah m J;let⟨P,hP⟩:=aN$ (aF ms).getD m zP;have Y:P=(ms.getD m aL).pm:=hP.trans$ dB;rw[<-hP]at a2;have vi:=(cR a2).2.1;have eI:(ms.getD m aL).im=P.ss.length:=by rw[Y];exact ai.i.1.symm
   have eS:(ms.getD m aL).ss=P.ss:=by rw[Y];rfl
   have a8:=zb w λW hb=>(HH.d m y).i.bw hb;rw[eI]at q6;rw[eI,eS]at a8;have HP:=zh hP;have HB:=zh$ xA B$ xA F$ xA G X;generalize ms.getD m aL=M at *;generalize M.ia=ia at *;have al:qY wr (wr.alloc$ .cells (qM M.nm M.ta M.tn M.tc M.ba M.bn M.bc M.da M.dn M.dc M.bss M.ra M.rn M.rc ia P.ss.length M.ic M.ea M.en M.ec) 128):=bal;let⟨g0,g1,g2,g3,g4,g5,g6,g7⟩:=(Blk.new wr (qM M.nm M.ta M.tn M.tc M.ba M.bn M.bc M.da M.dn M.dc M.bss M.ra M.rn M.rc ia P.ss.length M.ic M.ea M.en M.ec) 128).eight;have aa:=zh$ xA al$ F.bw al;clear B H ai hP Y eI eS al a2 F G X;generalize wr=wo at *;go_wp2_with fail
   go_loopw [24] (λi wx=>∃(q:Nat) (f:Nat->TB),q<=P.ss.length/\i=.int .i64 q/\Tf wx w.heap.size w.heap.size n f/\(∀i,i<n->(f i).1=if i<m then tgs (aF ms) ((aF ms).getD i zP) else if i=m then tgN (aF ms) P q else [])/\(∀j,j<q->(kQ (aF ms)$ P.ss.getD j zS).isSome=true)/\Turn (λj=>w.heap.size<=j) wo wx) (qf P.ss.length)
   .exact⟨0,f,xC _,rfl,aa.2,λi hi=>by
    rw[HB.o.2.2.1 i hi];by_cases e:i<m
    .simp[e]
    .by_cases e2:i=m
     .simp[e2,tgN]
     .simp[e,e2],λj N=>absurd N J,aI aa.o.1⟩
   .obtain⟨q,f',hq,rfl,F,G,X,T⟩:=hrel;have B:=aG HB.1 T (λj N=>N) HB.1.size;by_cases Q:q<P.ss.length
    .have am:(q:Int)<(P.ss.length:Int):=J
     let⟨bb,_,ak,aj,_⟩:=a8 wr B;obtain⟨b9,bd,rfl,hc⟩:=aj J;have c0:=hc q Q;have au:(P.ss.getD q zS).size<=1048576:=ak _ (by simp[xB,Q]);have HR:=zh$ (HH.bw B).resI ah hn (P.ss.getD q zS) au;have a4:=zh λt(h:kQ (aF ms) (P.ss.getD q zS)=some t)=>aE2 (ps:=aF ms) (P:=P) q h;have K:=zh (λ(h:kQ (aF ms) (P.ss.getD q zS)=none)=>(show ¬oH (aF ms)from λhi=>by have:=hi m J q (by rw[<-HP.o];exact Q);rw[<-HP.o,h]at this;cases this))
     have a5:=zh (λt(h:kQ (aF ms) (P.ss.getD q zS)=some t)=>(show ∀j,j<q+1->(kQ (aF ms)$ P.ss.getD j zS).isSome=true from λj N=>by
      by_cases e:j=q
      .subst e;rw[h];rfl
      .exact X j J))
     have R:(f' m).1=tgN (aF ms) P q:=by rw[G m y,if_neg J,if_pos rfl]
     have l:svT (f' m)=.slice (f' m).2.1 q (f' m).2.2:=by unfold svT;rw[R,jJ]
     have HQ:=zh$ xA F$ xA G$ xA T B;generalize P.ss.getD q zS=ap at *;clear F X T B hc ak aj;go_wp2_with fail
     apply HR.mono;rintro e V ⟨rfl,I⟩;let⟨F,G,T,B⟩:=HQ.o;have B1:=yT B I;cases ho:kQ (aF ms) ap with
     | none=>
       have D:=zh$ xA (B1.trans$ ((Below.refl _ V).alloc aO$ .cells (qT 0 0 0) 121).mono B1.size)$ K ho;clear F G T B I B1 HQ HR a4 K a5 c0 R l;unfold tgV;go_wp2
       go_ret2
       exact⟨D.1,.inl ⟨D.2,_,rfl⟩⟩
     | some t=>
       obtain⟨d,g,k⟩:=t;have a1:qY V (V.alloc$ .cells (qT d g k) 121):=bal;have ao:(V.alloc$ .cells (qT d g k) 121).heap.size=V.heap.size+1:=Jb
       have k1:=Blk.new V (qT d g k) 121;have F1:=(F.bw I).bw a1;have T1:=(T.trans$ aI I).trans$ aI a1;have ar:=zh$ a4 _ ho;have aq:=zh$ a5 _ ho;have x0:=k1.three;generalize a9:V.alloc (.cells (qT d g k) 121)=s at *;have a6:qY s (s.alloc$ .cells (qT d g k) 121):=bal;have O:=F1.bw a6;have F2:Tf (s.alloc$ .cells (qT d g k) 121).drew w.heap.size w.heap.size n f':=⟨O.head,O.rows,O.apart⟩;have af:=zh (show ∀j u,(clG (d,g,k))[j]?=some u->(s.alloc$ .cells (qT d g k) 121).drew.cell? (((qr V 0):Addr).add j)=some u by have:=cA s _ 121 (clG (d,g,k)) rfl;rw[ao]at this;exact this);let⟨p3,f3⟩:=O.cell m y;rw[l]at p3;let⟨p1,f1⟩:=F1.cell m y;let⟨p2,f2⟩:=F2.cell m y;have b6:=I.size;rw[l]at p1 p2;let⟨A,hA⟩:=aN$ (f' m).2.1;let⟨C,hC⟩:=aN$ (f' m).2.2;rw[<-hA,<-hC]at p1 p2 p3 l;have ae:=zh (show(s.alloc$ .cells (qT d g k) 121).drew.ownsRow w.heap.size 121 3 (.slice A q C) q ((tgN (aF ms) P q).flatMap clG)by have:=F2.rows m y;unfold OG at this;rw[l,R,jJ]at this;exact this)
       have ab:=zh (λ(w4:qw)(p:(s.alloc$ .cells (qT d g k) 121).drew.grownBy w4 (Value.slice A q C).ownBlock)=>(show qn w4 w m=some (.slice A q C)/\w4.frozen? (qh w m)=false by
        let⟨cs,ag,ba,aw⟩:=F2.head;have a7:=dD ag p (λe=>by have:=F2.rows m y;rw[l]at this;exact aQ this e.symm ag Ja)
        exact⟨(a7.cell m).trans ((aw m y).trans (by rw[l])),a7.frozen m⟩))
       have HX:=zh$ xA F2$ xA G$ xA (pO$ T1.trans$ aI a6)$ xA l R;have av:=zh a9;have b8:=F1.lt.1;clear F G T B I B1 HQ HR a4 K a5 c0 a1 k1 F1 T1 a6 F2 O R l hA hC a9;unfold tgV;go_wp2_with fail
       rw[av.o]
       go_region_law (first
        | (refine step_append_lies _ rfl _ _ 164 rfl w.heap.size 121 iG (.agg$ qT 0 0 0) 3 24 underlying164 ax az b0 b1 rfl Ja (.slice A q C) q ((tgN (aF ms) P q).flatMap clG) rfl ae.o (qr V 0) 1 1 (clG (d,g,k)) rfl rfl af.o (by intro u hu;simp[clG]at hu;rcases hu with rfl|rfl|rfl<;>rfl) Ja Jf J Jc _ rfl ?_;intro g4 c4 w4 E p Z b5;obtain⟨p4,f4⟩:=ab.o w4 p))
       all_goals
        let⟨F2,G,T2,l,R⟩:=HX.o;have S:=p;rw[<-l]at S Z
        have O4:OG 121 3 clG w4 w.heap.size (svT ((tgN (aF ms) P$ q+1,qP g4,c4):TB)) (tgN (aF ms) P$ q+1):=by
         unfold OG svT;rw[jJ,ar.o,xU,xX];exact E
        have U:=F2.update (x:=(tgN (aF ms) P$ q+1,qP g4,c4)) (g4:=g4) (c4:=c4) y S O4 rfl (by simpa using Z)
        have T5:Turn (λj=>w.heap.size<=j) wo (w4.setCell (qh w m)$ svT ((tgN (aF ms) P$ q+1,qP g4,c4):TB)):=by
         have t4:Turn (λj=>w.heap.size<=j) _ w4:=⟨p.os,p.tape,p.output,p.size,λj N hs=>p.block j N (λe=>hs (by have:=(F2.lt.2 m y j (by rw[l];exact e.symm)).1;exact this))⟩;exact(T2.trans t4).trans ((aC w4 w.heap.size m _).mono (λj N=>by have e:j=w.heap.size:=N;omega))
        have ac:svT ((tgN (aF ms) P$ q+1,qP g4,c4):TB)=.slice (qP g4) (q+1) c4:=by unfold svT;rw[jJ]
        rw[ac]at U T5
        have D:=zh (xA U (xA (show ∀i,i<n->((λi=>if i=m then ((tgN (aF ms) P$ q+1,qP g4,c4):TB) else f' i) i).1=if i<m then tgs (aF ms) ((aF ms).getD i zP) else if i=m then tgN (aF ms) P (q+1) else [] from λi hi=>by
         by_cases e:i=m
         .simp[e]
         .simp only[e,if_false];rw[G i hi];simp[e])$ xA aq.o T5))
        clear F2 G T2 l R S p E Z O4 U T5 ac HX ae ab p4 f4 p1 p2 p3 f1 f2 f3 af x0;go_wp2
        go_roundw
        .exact⟨q+1,_,J,by go_num,D.1,D.2.1,D.2.2.1,D.2.2.2⟩
        .simp[qf,intOf];omega
    .have am:¬(q:Int)<(P.ss.length:Int):=J
     have ad:q=P.ss.length:=J
     have D:=zh (xA B (xA F (xA (show ∀i,i<n->(f' i).1=if i<m+1 then tgs (aF ms) ((aF ms).getD i zP) else [] from λi hi=>by
      rw[G i hi];by_cases e:i<m
      .rw[if_pos e,if_pos J]
      .by_cases e2:i=m
       .rw[if_neg e,if_pos e2,if_pos J,e2,<-HP.o,ad];rfl
       .rw[if_neg e,if_neg e2,if_neg J]) (show ∀j,j<m+1->aAc (aF ms) ((aF ms).getD j zP)from λj N=>by
      by_cases e:j=m
      .subst e;rw[<-HP.o];intro i hi;exact X i J
      .exact HB.2.2.2 j J))))
     clear F G X T B ad;go_wp2
     go_roundw
     .exact⟨m+1,f',J,by go_num,D.2.1,D.2.2.1,D.2.2.2,D.1⟩
     .simp[qf,intOf];omega
  .have an:¬(m:Int)<(n:Int):=J
   have HI:Zh (oH$ aF ms):=λi hi=>X i J;have D:=zh (xA B (xA F (show ∀i,i<n->(f i).1=tgs (aF ms) ((aF ms).getD i zP)from λi hi=>by rw[G i hi,if_pos J])));clear B F G X;go_wp2
   go_ret2
   exact⟨D.1,.inr (by first|exact⟨HI,f,rfl,D.2.1,D.2.2⟩|exact⟨HI,rfl,f,D.2.1,D.2.2⟩)⟩
def aQx (x):rnd (rnd x)=rnd x:=by unfold rnd;omega
def aLl {x:Int}(h:x%32=0):rnd x=x:=by unfold rnd;omega
def alF (x:Int):Array Value:=#[qI x,.func (.func 199) #[] #[]]
def alR (x:Int):Array Value:=#[qI x,.func (.func 259) #[] #[]]
structure Lo (w W:qw)(s c k d fx rx:Int)(cs:Array Value):Prop where
 be:qY w W
 k0:Blk W w.heap.size (qW s c k d) 37
 k1:Blk W (w.heap.size+1) zL 65
 k2:Blk W (w.heap.size+2) (alF fx) 277
 k3:Blk W (w.heap.size+3) (alR rx) 279
 k4:Blk W (w.heap.size+4) cs 65
def Lo.sz {w W:qw}(h:Lo w W s c k d fx rx cs):w.heap.size+5<=W.heap.size:=h.k4.lt
def Lo.bw {w W i:qw}(h:Lo w W s c k d fx rx cs)(e:qY W i):Lo w i s c k d fx rx cs:=⟨h.be.trans$ e.mono h.be.size,h.k0.bw e,h.k1.bw e,h.k2.bw e,h.k3.bw e,h.k4.bw e⟩
def Lo.set {w W:qw}(h:Lo w W s c k d fx rx cs)(i v):Lo w (W.setCell (qR (w.heap.size+4) i) v) s c k d fx rx (cs.setIfInBounds i v):=by
 have t:=aC W (w.heap.size+4) i v;exact⟨aG h.be t (λk e=>J) h.be.size,aD t h.k0 J,aD t h.k1 J,aD t h.k2 J,aD t h.k3 J,h.k4.set i v⟩
def Lo.other {w W:qw}(h:Lo w W s c k d fx rx cs)(j:w.heap.size+5<=g)(i v):Lo w (W.setCell (qR g i) v) s c k d fx rx cs:=by
 have t:=aC W g i v;exact⟨aG h.be t (λk e=>J) h.be.size,aD t h.k0 J,aD t h.k1 J,aD t h.k2 J,aD t h.k3 J,aD t h.k4 J⟩
def Lo.callF {w W e:qw}{fx':Int}(h:Lo w W s c k d fx rx cs)(t:Turn (λj=>j=w.heap.size+2) W e)(i:Blk e (w.heap.size+2) (alF fx') 277):Lo w e s c k d fx' rx cs:=
 ⟨aG h.be t (λk l=>J) h.be.size,aD t h.k0 J,aD t h.k1 J,i,aD t h.k3 J,aD t h.k4 J⟩
def Lo.callR {w W e:qw}{rx':Int}(h:Lo w W s c k d fx rx cs)(t:Turn (λj=>j=w.heap.size+3) W e)(i:Blk e (w.heap.size+3) (alR rx') 279):Lo w e s c k d fx rx' cs:=
 ⟨aG h.be t (λk l=>J) h.be.size,aD t h.k0 J,aD t h.k1 J,aD t h.k2 J,i,aD t h.k4 J⟩
def Lo.grown {w W W':qw}{row:Option Nat}(h:Lo w W s c k d fx rx cs)(i:W.grownBy W' row)(p:∀j,row=some j->w.heap.size+5<=j):Lo w W' s c k d fx rx cs:=by
 have t:Turn (λj=>row=some j) W W':=⟨i.os,i.tape,i.output,i.size,λj l hs=>i.block j l λe=>hs e.symm⟩;exact⟨aG h.be t (λj l=>by grind) h.be.size,aD t h.k0 (λe=>by grind),aD t h.k1 (λe=>by grind),aD t h.k2 (λe=>by grind),aD t h.k3 (λe=>by grind),aD t h.k4 (λe=>by grind)⟩
def aUn (w s c k d):Lo w (((((w.alloc$ .cells (qW s c k d) 37).alloc$ .cells qz 65).alloc$ .cells #[qI 0,.func (.func 199) #[] #[]] 277).alloc$ .cells #[qI 65536,.func (.func 259) #[] #[]] 279).alloc$ .cells qz 65) s c k d 0 65536 zL:=by
 have F:=Blk.new w (qW s c k d) 37;have D:qY w (w.alloc$ .cells (qW s c k d) 37):=bal;have s0:(w.alloc$ .cells (qW s c k d) 37).heap.size=w.heap.size+1:=Jb
 generalize w.alloc (.cells (qW s c k d) 37)=e at *;have A:=Blk.new e qz 65;have E:qY e (e.alloc$ .cells qz 65):=bal;have s1:(e.alloc$ .cells qz 65).heap.size=w.heap.size+2:=by simp[s0]
 rw[s0]at A;generalize e.alloc (.cells qz 65)=t at *;have y:=Blk.new t #[qI 0,.func (.func 199) #[] #[]] 277;have G:qY t (t.alloc$ .cells #[qI 0,.func (.func 199) #[] #[]] 277):=bal;have s2:(t.alloc$ .cells #[qI 0,.func (.func 199) #[] #[]] 277).heap.size=w.heap.size+3:=by simp[s1]
 rw[s1]at y;generalize t.alloc (.cells #[qI 0,.func (.func 199) #[] #[]] 277)=u at *;have B:=Blk.new u #[qI 65536,.func (.func 259) #[] #[]] 279;have I:qY u (u.alloc$ .cells #[qI 65536,.func (.func 259) #[] #[]] 279):=bal;have s3:(u.alloc$ .cells #[qI 65536,.func (.func 259) #[] #[]] 279).heap.size=w.heap.size+4:=by simp[s2]
 rw[s2]at B;generalize u.alloc (.cells #[qI 65536,.func (.func 259) #[] #[]] 279)=x at *;have C:=Blk.new x qz 65;have H:qY x (x.alloc$ .cells qz 65):=bal;rw[s3]at C;have j:=H;have i:=I.trans$ j.mono J;have l:=G.trans$ i.mono J;have p:=E.trans$ l.mono J;exact⟨D.trans$ p.mono J,F.bw p,A.bw l,y.bw i,B.bw j,C⟩
def yP {α:Type}(f:α->List Value)(sz:Nat)(e:∀x,(f x).length=sz):∀a:List α,(a.flatMap f).length=a.length*sz
 | []=>Jb
 | x::a=>by simp only[xT,xI,List.length_cons,yP f sz e a,e x];rw[Nat.add_mul];omega
def yQ {α:Type}(f:α->List Value)(sz)(e:∀x,(f x).length=sz)(z):∀(a:List α)(i j:Nat),i<a.length->j<sz->(a.flatMap f)[i*sz+j]?=(f$ a.getD i z)[j]?
 | [],i,j,h,_=>by grind
 | x::a,0,j,h,hj=>by grind
 | x::a,i+1,j,h,hj=>by
   have:=yQ f sz e z a i j (by grind) hj
   grind
def aK8 {α:Type}(f:α->List Value)(sz)(t:∀x,(f x).length=sz)(z){xs:List α}(h:cs.size=xs.length*sz)(hs:0<sz)(hc:∀i,i<xs.length->∀j,j<sz->cs[i*sz+j]?=(f$ xs.getD i z)[j]?):cs.toList.take (xs.length*sz)=xs.flatMap f:=by
 apply List.ext_getElem?;intro k;by_cases p:k<xs.length*sz
 .have e:k=k/sz*sz+k%sz:=by rw[Nat.mul_comm];exact(Nat.div_add_mod k sz).symm
  have u:k/sz<xs.length:=by rw[Nat.div_lt_iff_lt_mul hs];exact p
  have l:k%sz<sz:=Nat.mod_lt _ hs;rw[List.getElem?_take,if_pos p,Array.getElem?_toList];rw[e,hc _ u _ l,yQ f sz t z xs _ _ u l]
 .rw[xO (by grind),xO (by rw[yP f sz t];omega)]
def RowF {α:Type}(t:TypeId)(sz:Nat)(f:α->List Value)(w:qw)(g n:Nat)(F:Nat->α):Prop:=
 ∃cs,Blk w g cs t/\cs.size=n*sz/\∀i,i<n->∀j,j<sz->cs[i*sz+j]?=(f$ F i)[j]?
section
variable {α:Type}{t:TypeId}{sz:Nat}{f:α->List Value}{w w':qw}{g n:Nat}{F:Nat->α}
def RowF.bw (h:RowF t sz f w g n F)(e:qY w w'):RowF t sz f w' g n F:=by
 obtain⟨a,b,d,i⟩:=h;exact⟨a,b.bw e,d,i⟩
def RowF.blk (h:RowF t sz f w g n F):∃cs,Blk w g cs t:=by obtain⟨cs,a,_⟩:=h;exact⟨cs,a⟩
def RowF.cell (h:RowF t sz f w g n F)(p:∀x,(f x).length=sz)(i j)(hi:i<n)(e:j<sz)(v)(l:(f$ F i)[j]?=some v):w.cell? (qR g$ i*sz+j)=some v:=by
 obtain⟨d,a,k,b⟩:=h;rw[a.cell,b i hi j e,l]
def RowF.og (h:RowF t sz f w g n F)(e:∀x,(f x).length=sz)(hs:0<sz)(l:base<=g)(hn:n<=maxLen){xs:List α}(p:xs.length=n)(z)(u:∀i,i<n->F i=xs.getD i z):OG t sz f w base (qS (qP g) n n) xs:=by
 obtain⟨b,d,a,k⟩:=h;subst p;refine⟨yP f sz e xs,.inr ⟨g,xs.length,b,rfl,l,d,aO,hn,a,aK8 f sz e z a hs λi hi j y=>?_⟩⟩
 grind
def aBr (d)(v:Value)(x:v.cells.toList=f d)(hs:sz=v.cells.size)(h:w.ownsRow base t sz (qS (qP g) n n) n (madeCells v.cells$ n*sz).toList):RowF t sz f w g n (λ_=>d):=by
 obtain⟨E,h|⟨y,s,a,b,D,q,A,B,k,C⟩⟩:=h
 .grind
 .simp at b;obtain⟨rfl,rfl⟩:=b
  have e:a.toList=(madeCells v.cells$ n*sz).toList:=by
   grind
  have e2:a=madeCells v.cells (n*sz):=Array.toList_inj.1 e;refine⟨a,q,k,λi hi j p=>?_⟩
  have l:i*sz+j<n*sz:=by
   have:(i+1)*sz<=n*sz:=Nat.mul_le_mul_right _ J
   grind
  have u:(i*sz+j)%v.cells.size=j:=by rw[<-hs,Nat.mul_comm,Nat.mul_add_mod];exact Nat.mod_eq_of_lt p
  rw[e2,<-x];simp[madeCells,l,u,show j<v.cells.size from J]
def aKx {i:Nat}(h:i<cs.size):(cs.setIfInBounds i v)[i]?=some v:=by simp[h]
def RowF.set4 (h:RowF t 4 f w g n F)(m)(p:m<n)(x a b c d)(hx:f x=[a,b,c,d]):RowF t 4 f ((((w.setCell (qR g$ m*4) a).setCell (qR g$ m*4+1) b).setCell (qR g$ m*4+2) c).setCell (qR g$ m*4+3) d) g n (λi=>if i=m then x else F i):=by
 obtain⟨q,k,s,u⟩:=h;refine⟨_,(((k.set (m*4) a).set (m*4+1) b).set (m*4+2) c).set (m*4+3) d,by grind,λi hi j l=>?_⟩;by_cases e:i=m
 .subst e;simp only[if_true,hx]
  match j,l with
  | 0,_=>exact dK$ dK$ dK$ aKx (by grind)
  | 1,_=>exact dK$ dK$ aKx (by grind)
  | 2,_=>exact dK$ aKx (by grind)
  | 3,_=>exact aKx (by grind)
 .simp only[e,if_false];rw[Array.getElem?_setIfInBounds_ne J,Array.getElem?_setIfInBounds_ne J,Array.getElem?_setIfInBounds_ne J,Array.getElem?_setIfInBounds_ne J]
  grind
end
section
variable {α β:Type}{th:TypeId}{hs:Nat}{hc:α->List Value}{tr:TypeId}{rs:Nat}{rc:β->List Value}{sv:α->Value}{ct:α->List β}{w w':qw}{base g n:Nat}{f:Nat->α}
end
def aS3 {α:Type}{f:α->List Value}(l:∀x,(f x).length=4):∀(L:List α)(i:Nat)(x:α),L[i]?=some x->∀j,j<4->(L.flatMap f)[i*4+j]?=(f x)[j]?
 | [],i,x,h,j,hj=>by grind
 | y::L,0,x,h,j,hj=>by
   grind
 | y::L,i+1,x,h,j,hj=>by
   rw[xT,List.getElem?_append_right (by grind)];have e:(i+1)*4+j-(f y).length=i*4+j:=by grind
   rw[e];exact aS3 l L i x (by grind) j hj
def aN1 {α:Type}{f:α->List Value}(j:∀x,(f x).length=4)(x v0 v1 v2 v3)(hx:f x=[v0,v1,v2,v3]):∀(g:List α)(i:Nat),i<g.length->((((g.flatMap f).set (i*4) v0).set (i*4+1) v1).set (i*4+2) v2).set (i*4+3) v3=(g.set i x).flatMap f
 | [],i,h=>by grind
 | y::ys,0,h=>by
   match e:f y,j y with
   | [a,b,c,d],_=>simp[e,hx]
 | y::ys,i+1,h=>by
   have:=aN1 j x v0 v1 v2 v3 hx ys i (by grind)
   match e:f y,j y with
   | [a,b,c,d],_=>
     rw[show(i+1)*4=i*4+1+1+1+1 from J];simp only[xT,e,List.cons_append,List.nil_append,List.set_cons_succ]
     grind
def aDp {α:Type}{f:α->List Value}(e:∀x,(f x).length=4){t:TypeId}{w:qw}{c:Nat}{xs:List α}(h:OG t 4 f w base (qS (qP g) n c) xs)(i)(hi:i<n)(x v0 v1 v2 v3)(hx:f x=[v0,v1,v2,v3]):OG t 4 f ((((w.setCell (qR g$ i*4) v0).setCell (qR g$ i*4+1) v1).setCell (qR g$ i*4+2) v2).setCell (qR g$ i*4+3) v3) base (qS (qP g) n c) (xs.set i x):=by
 obtain⟨A,⟨s,_⟩|⟨q,p,b,a,k,l,u,d,y,j⟩⟩:=h
 .grind
 .simp at a;obtain⟨rfl,rfl,rfl⟩:=a;refine⟨?_,.inr ⟨g,c,(((b.setIfInBounds (i*4) v0).setIfInBounds (i*4+1) v1).setIfInBounds (i*4+2) v2).setIfInBounds (i*4+3) v3,Jb,k,Blk.set (Blk.set (Blk.set (Blk.set (w:=w) l _ _) _ _) _ _) _ _,by grind,d,by grind,?_⟩⟩
  .rw[<-aN1 e x v0 v1 v2 v3 hx xs i hi]
   grind
  .rw[List.length_set,xW,xW,xW,xW,List.take_set,List.take_set,List.take_set,List.take_set,j];exact aN1 e x v0 v1 v2 v3 hx xs i hi
def sH {α:Type}{f:α->List Value}(i:∀x,(f x).length=4)(z){t:TypeId}{w:qw}{c:Nat}{xs:List α}(h:OG t 4 f w base (qS a n c) xs)(m)(l:m<n):∃g,a=some (qR g 0)/\∀j,j<4->∀u,(f$ xs.getD m z)[j]?=some u->w.cell? (qR g$ m*4+j)=some u:=by
 let⟨k,_,_,b⟩:=aY h;let⟨g,d,hc⟩:=b J;have hx:xs[m]?=some (xs.getD m z):=by grind
 exact⟨g,d,λj e u hu=>hc _ _ (by rw[aS3 i xs m _ hx j e];exact hu)⟩
def oE {α:Type}(mk:Nat->α)(n:Nat):List α:=(List.range n).map mk
def uF {α:Type}(z:α)(zs:List α)(mk:Nat->α)(m:Nat):List α:=(List.range zs.length).map λi=>if i<m then mk i else zs.getD i z
def aKd {α:Type}(z)(mk:Nat->α)(n m)(h:m<n):(oE mk n).getD m z=mk m:=by simp[oE,xB,h]
def aBy {α:Type}(z zs)(mk:Nat->α):uF z zs mk 0=zs:=by
 apply List.ext_getElem
 .simp[uF]
 .intro i j e;simp[uF,e]
def aF2 {α:Type}(z a)(mk:Nat->α):uF z a mk a.length=oE mk a.length:=by
 apply List.ext_getElem
 .simp[uF,oE]
 .intro i j e;simp[oE]at e;simp[uF,oE,e]
def aF1 {α:Type}(z a)(mk:Nat->α)(m)(h:m<a.length):(uF z a mk m).set m (mk m)=uF z a mk (m+1):=by
 apply List.ext_getElem
 .simp[uF]
 .intro i e j;simp only[uF,List.getElem_set,List.getElem_map,List.getElem_range]
  grind
def aIx (W:qw)(row):W.grownBy W row:=⟨rfl,rfl,rfl,aO,λ_ _ _=>rfl⟩
def Srd {α:Type}(f:α->List Value)(W:qw)(a:qO)(n c:Nat)(ys:List α):Prop:=ys.length=n/\((a=none/\n=0/\c=0)\/∃g off,a=some (qR g off)/\∀j u,(ys.flatMap f)[j]?=some u->W.cell? (qR g$ off+j)=some u)
def Srd.bw {α:Type}{f:α->List Value}{W i:qw}{c:Nat}{ys:List α}(h:Srd f W a n c ys)(l:qY W i):Srd f i a n c ys:=by
 obtain⟨b,k|⟨g,p,e,d⟩⟩:=h
 .exact⟨b,.inl k⟩
 .exact⟨b,.inr ⟨g,p,e,λj u hu=>(l.cell$ xD W _$ d j u hu).trans$ d j u hu⟩⟩
def aOg {α:Type}{t:TypeId}{sz:Nat}{f:α->List Value}{W:qw}{c:Nat}{ys:List α}(h:OG t sz f W b (qS a n c) ys):Srd f W a n c ys:=by
 let⟨i,k,e⟩:=aZ h;obtain⟨rfl,rfl,rfl⟩:=e;refine⟨rfl,?_⟩;obtain⟨_,⟨s,_⟩|⟨g,l,p,d,_⟩⟩:=id h
 .grind
 .simp only[Value.slice.injEq]at d;obtain⟨rfl,-,rfl⟩:=d;exact .inr ⟨g,0,rfl,λj u hu=>by have q:=World.ownsRow.cells h (g:=g) rfl j u hu;rwa[cI]at q⟩
def aEv {α:Type}{f:α->List Value}{G:Act}{K:Act->World->Prop}{Q:Exit->Act->World->Prop}{W:qw}(s x t)
 (O:o.op=.call { callee:=.builtin .append,args:=#[s,x],argTypes:=#[t,t] })
 (base e i z size d) (S:prog.underlying t=some (.slice e)) (hi:prog.info? e=some i) (hz:i.zero=some z)
 (A:i.size=size) (N:i.bytes=d) (H:z.cells.size=size) (M:0<size)
 (v xs) (hs:G.eval s=v) (p:OG e size f W base v xs)
 (F R k a) (hx:G.eval x=qS F R k) (I:Srd f W F R k a) (X:∀y,(f y).length=size) (h1:∀y,∀u∈f y,u.oneCell'=true)
 (D:xs.length+a.length<=maxLen) (l:(xs.length+a.length)*d<=140737488355328) (B:base<=W.heap.size)
 (h:∀b w',OG e size f w' base b (xs++a)->W.grownBy w' v.ownBlock->K (G.put o.dst b) w'):o.wp prog G W K Q:=by
 have C:∀{b:Value}{w':qw},w'.ownsRow base e size b (xs.length+a.length) (xs.flatMap f++a.flatMap f)->OG e size f w' base b (xs++a):=λZ=>by
  unfold OG
  grind
 obtain⟨rfl,⟨rfl,hn,rfl⟩|⟨g,a0,rfl,q⟩⟩:=I
 .obtain rfl:a=[]:=xE hn;have E:=run_append_owned_none (P:=prog) (w:=W) base t o.type e i size S hi v xs.length (xs.flatMap f) p;unfold Oper.wp;simp[execOp,O,resolve,invoke,builtin,hs,hx,E,Result.andThen];exact h v W (by grind)$ aIx _ _
 .have U:(a.flatMap f).length=a.length*size:=by
   clear q h C hx D l
   induction a with
   | nil=>simp
   | cons y a ih=>rw[xT,xI,X,ih,List.length_cons,Nat.add_mul];omega
  refine wp_append_own W s x t O base e i z size d S hi hz A N H M v xs.length (xs.flatMap f) hs p (qR g a0) a.length k (a.flatMap f) hx U (λj u hu=>by rw[cI];exact q j u hu) (λu hu=>?_) D l B λb w' Y V _=>h b w' (C Y) V
  grind
def bY {α:Type}{f:α->List Value}{A:Array Oper}{rest:List Oper}{C:Act}{Q:Exit->Act->World->Prop}{W:qw}(K:o.guard=none)(s x t)
 (M:o.op=.call { callee:=.builtin .append,args:=#[s,x],argTypes:=#[t,t] })
 (base e i z size d) (S:prog.underlying t=some (.slice e)) (hi:prog.info? e=some i) (hz:i.zero=some z)
 (l:i.size=size) (I:i.bytes=d) (D:z.cells.size=size) (H:0<size)
 (v xs) (hs:C.eval s=v) (B:OG e size f W base v xs)
 (g q k a) (hx:C.eval x=qS g q k) (E:Srd f W g q k a) (U:∀y,(f y).length=size) (N:∀y,∀u∈f y,u.oneCell'=true)
 (G:xs.length+a.length<=maxLen) (j:(xs.length+a.length)*d<=140737488355328) (p:base<=W.heap.size)
 (h:∀b w',OG e size f w' base b (xs++a)->W.grownBy w' v.ownBlock->wpList prog A Q rest (C.put o.dst b) w'):wpList prog A Q (o::rest) C W:=
 wpList_plain K λ_ P=>aEv s x t M base e i z size d S hi hz l I D H v xs hs B g q k a hx E U N G j p λb w' V O=>P _ _$ h b w' V O
def aHf {α:Type}{f:α->List Value}{B:Array Oper}{A:Act}{K:Act->World->Prop}{Q:Exit->Act->World->Prop}{E:Prop}{W:qw}(N:o.guard=none)(s x t)
 (P:o.op=.call { callee:=.builtin .append,args:=#[s,x],argTypes:=#[t,t] })
 (base e i z size b) (U:prog.underlying t=some (.slice e)) (hi:prog.info? e=some i) (hz:i.zero=some z)
 (l:i.size=size) (M:i.bytes=b) (D:z.cells.size=size) (I:0<size)
 (v xs) (hs:A.eval s=v) (C:OG e size f W base v xs)
 (d k g a) (hx:A.eval x=qS d k g) (G:Srd f W d k g a) (V:∀y,(f y).length=size) (S:∀y,∀u∈f y,u.oneCell'=true)
 (H:xs.length+a.length<=maxLen) (j:(xs.length+a.length)*b<=140737488355328) (p:base<=W.heap.size)
 (h:∀q w',OG e size f w' base q (xs++a)->W.grownBy w' v.ownBlock->K (A.put o.dst q) w'):
 if Region.wanted o (yielded B A.tmps)=true then Oper.wp prog o A W K Q else E:=by
 have O:Region.wanted o (yielded B A.tmps)=true:=by simp[Region.wanted,N]
 rw[if_pos O];exact aEv s x t P base e i z size b U hi hz l M D I v xs hs C d k g a hx G V S H j p h
def oN (s:Nat):Option (List Int)->Int×Option (List Int)
 | none=>(0,none)
 | some zs=>match pN s zs with
   | none=>(0,none)
   | some x=>(x.1,some x.2)
structure Cpm (W0 X:qw)(gm:Nat)(cs:Array Value):Prop where
 b:qY W0 X
 k:Blk X gm cs 128
 g:W0.heap.size<=gm
def Cpm.bw {e X i:qw}(h:Cpm e X gm cs)(j:qY X i):Cpm e i gm cs:=⟨h.b.trans$ j.mono h.b.size,h.k.bw j,h.g⟩
def Cpm.grown {l X A X':qw}(h:Cpm l X gm cs)(ha:qY X A)(u:X.heap.size<=g)(G:A.grownBy X' (some g)):Cpm l X' gm cs/\Turn (λj=>j=gm\/X.heap.size<=j) X X':=by
 have T:Turn (λj=>j=gm\/X.heap.size<=j) X X':=(aI ha).trans ⟨G.os,G.tape,G.output,G.size,λk i hs=>G.block k i λe=>hs$ .inr (by grind)⟩;have:=h.k.lt;exact⟨⟨aG (yT h.b ha) (S:=λk=>k=g) ⟨G.os,G.tape,G.output,G.size,λk i hs=>G.block k i λe=>hs (by grind)⟩ (λk i=>jK h.b.size)$ xM h.b.size ha.size,bG G (h.k.bw ha) (λe=>by grind),h.g⟩,T⟩
def Cpm.set {e X:qw}(h:Cpm e X gm cs)(j u):Cpm e (X.setCell (qR gm j) u) gm (cs.setIfInBounds j u)/\Turn (λk=>k=gm) X (X.setCell (qR gm j) u):=⟨⟨aG h.b (aC X gm j u) (λk i=>jK h.g) h.b.size,h.k.set j u,h.g⟩,aC X gm j u⟩
def dA {X l:qw}{sz:Nat}{t:TypeId}{xs:List Value}(T:Turn (λj=>j=gm\/X.heap.size<=j) X l)(p:Blk X gm cs 128)(h:X.ownsRow b t sz v n xs)(i:t≠128):l.ownsRow b t sz v n xs:=by
 have e:∀k,v.ownBlock=some k->¬(k=gm\/X.heap.size<=k):=λk e s=>by
  rcases s with rfl|s
  .have⟨c,kb⟩:=aE h e;exact i$ aH kb p
  .have:=(World.ownsRow.lt h k e).2;omega
 obtain⟨a,u|⟨g,f,q,d,C,D,x,y,A,B⟩⟩:=h
 .exact⟨a,.inl u⟩
 .exact⟨a,.inr ⟨g,f,q,d,C,aD (w:=X) T D (e g (by rw[d];rfl)),x,y,A,B⟩⟩
def Cpm.row {α:Type}{f:α->List Value}{u X w':qw}{sz:Nat}{t:TypeId}{v':Value}{p:List α}(h:Cpm u X gm cs)(j)(O:OG t sz f w' X.heap.size v' p)(l:t≠128)(G:(X.alloc$ .cells #[] t).grownBy w' (some X.heap.size)):
 Blk w' gm cs 128/\Cpm u (w'.setCell (qR gm j) v') gm (cs.setIfInBounds j v')/\OG t sz f (w'.setCell (qR gm j) v') X.heap.size v' p/\Turn (λj=>j=gm\/X.heap.size<=j) X (w'.setCell (qR gm j) v'):=by
 let⟨a,d⟩:=h.grown bal aO G;let⟨c2,b⟩:=a.set j v';refine⟨a.k,c2,O.kept b λk i e=>?_,d.trans$ b.mono λk i=>.inl i⟩;subst e;let⟨c,kb⟩:=aE O i;exact l$ aH kb a.k
def dI {w:qw}{o e:Nat}{v:Value}(h:b≠g\/e≠o:=by omega):(w.setCell (qR g o) v).cell? (qR b e)=w.cell? (qR b e):=
 World.cell?_setCell_other _ _ _ _ (by grind)
def tL {w:qw}{o:Nat}{u:Value}(h:w.cell? (qR g o)=some u):(w.setCell (qR g o) v).cell? (qR g o)=some v:=World.cell?_setCell_same _ _ _ h
